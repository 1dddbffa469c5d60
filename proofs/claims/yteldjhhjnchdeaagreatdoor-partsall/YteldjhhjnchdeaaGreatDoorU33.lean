import Derived.Test.YteldjhhjnchdeaaGreatDoorU32
open Go.Value renaming slice->C,bool->F,int->B
open Go renaming World->G
open Go.IntKind renaming i64->H
set_option maxRecDepth 100000
set_option maxHeartbeats 16000000
namespace Go.Proofs.YteldjhhjnchdeaaGreatDoor
open Go.RowKit Go.Shelf
section
attribute [local go_sem] Oper.semAt_some
theorem Bn:type_of% @Obj.cells.injEq:=@Obj.cells.injEq
def GF(r:Bool)(W0:G)(V:G)(o:Value)(qs:List Rat):Prop:=Eg r W0.heap.size V o qs/\Bl W0 V
theorem GF.below{r:Bool}{W0 V V':G}{o:Value}{qs:List Rat}(h:GF r W0 V o qs)(a:Bl V V'):GF r W0 V' o qs:=⟨h.1.below a,Bt h.2 a⟩
theorem Sa(va vq:Value)(ps:List Rat)(q:Rat)(w:G)(ha:RowK false w va ps)(hq:Js w vq q)(am:DZ ps)(an:Sq q)(aj:ps.length<1099511627776):
 Calls Tryz.prog 76 #[va,vq] w λe w'=>∃u,e=.returned u/\RowK false w' u (Jc (YA q ps))/\Bl w w':=by
 have Qm:Tryz.prog.follows .mixedOrders=true:=by kernel_rfl
 obtain⟨a,la,ca,rfl⟩:=ha.form;obtain⟨a8,l8,c8,s8,b8,k8,d8,t8,rfl⟩:=Js.form hq;obtain⟨ai,ay,az,bj,s,t,aa,bb,ll,cc,kk,dd,hc⟩:=ha.formsF;have b0:=JS.new w 85 (C a8 l8 c8) (F s8) (C b8 k8 d8) (F t8);have Qf:Bl w (w.alloc (.cells #[C a8 l8 c8,F s8,C b8 k8 d8,F t8] 85)):=Ba w _;obtain⟨W0,af⟩:=ex (w.alloc (.cells #[C a8 l8 c8,F s8,C b8 k8 d8,F t8] 85));rw[af]at Qf b0;obtain⟨Qj,HA,HQ,HP,Qi,Qh,Qd,Qp⟩:=Ij af hc (hq.below Qf) am an ai Qf b0;have Ql:=J aj;clear ha hq am an ai ay az hc af aj b0 Qf;go_enter Tryz.func76,Tryz.ntmps76
 go_upto_region 1 with fail
 rw[Qj.o];go_wp2;go_loopw [5,6] (λo i wr=>∃k:Nat,k<=la/\i=B H (k:Int)/\(∃M N,o=C M k N)/\Hid (GF false W0 wr o (XA (λi=>cf ps i*q) k))) λ_ i _=>la-(intOf i).toNat
 case atStart=>exact⟨0,AC _,rfl,⟨_,_,rfl⟩,J ⟨Eg.nil _ _ _,BB _ _⟩⟩
 case round=>
  obtain⟨k,hk,rfl,⟨M,N,rfl⟩,X⟩:=hrel;by_cases bc:k<la
  . have bk:(k:Int)<(la:Int):=O
    obtain⟨L,b,rfl,S,c0,c1,c2,c3⟩:=HA.o k bc;have Qo:=J (show ∀V,Bl W0 V->(V.cell? ⟨b,k*4,none⟩=some (C (aa k) (ll k) (cc k))/\V.cell? ⟨b,k*4+1,none⟩=some (F (s k))/\V.cell? ⟨b,k*4+2,none⟩=some (C (bb k) (kk k) (dd k))/\V.cell? ⟨b,k*4+3,none⟩=some (F (t k)))/\Js V (.agg #[C (aa k) (ll k) (cc k),F (s k),C (bb k) (kk k) (dd k),F (t k)]) (cf ps k)from λV h=>by
     have R:=Bt Qd.o h;exact⟨⟨(R.cell (p:=⟨b,_,none⟩) S).trans c0,(R.cell (p:=⟨b,_,none⟩) S).trans c1,(R.cell (p:=⟨b,_,none⟩) S).trans c2,(R.cell (p:=⟨b,_,none⟩) S).trans c3⟩,L.below R⟩)
    have HK:=J (show k+1<=1099511627776 by have:=Ql.o;have:=Qh.o;omega);clear L c0 c1 c2 c3 S;go_wp2_with fail
    have Qn:=X.o.below ((BB _ wr).drew);refine Jl Qm [[],[],[],[1,2],[3],[],[4,5],[6],[0,7,6],[8,8,0,1,2,3,4,5,6,7,8]] (by kernel_rfl) DP
     (λD ad V=>∃(ta tb tc td te tf tg U P W:Value),ad={ tmps:=#[C (some ⟨b,0,none⟩) la ca,.agg #[C a8 l8 c8,F s8,C b8 k8 d8,F t8],undef,.pointer (some ⟨w.heap.size,0,none⟩),C none 0 0,W,B H ↑k,B H ↑k,C (some ⟨b,0,none⟩) la ca,B H ↑la,F true,u11,u12,ta,tb,tc,td,te,tf,tg,U,P,undef,undef],defers:=[] }/\Hid ((D 0=true->ta=C M k N)/\(D 1=true->tb=C (some ⟨b,0,none⟩) la ca)/\(D 2=true->tc=B H (k:Int))/\(D 3=true->td=.pointer (some ⟨b,k*4,none⟩))/\(D 4=true->D 8=false->Js V te (cf ps k))/\(D 5=true->D 8=false->Js V tf q)/\(D 6=true->D 8=false->Js V tg (cf ps k*q))/\(D 7=true->∃a l c,U=C a l c)/\(D 8=true->∃a l c,P=C a l c)/\((D 9=false->W=Value.slice M k N)/\(D 9=true->W=P)))/\Hid ((D 7=false->GF false W0 V (C M k N) (XA (λi=>cf ps i*q) k))/\(D 7=true->D 8=false->∃(I:G) (x y z u:Value),V=I.alloc (.cells #[x,y,z,u] (EI false))/\(GF false W0 I (C M k N) (XA (λi=>cf ps i*q) k))/\EO false I (.agg #[x,y,z,u]) (cf ps k*q)/\U=C (some ⟨I.heap.size,0,none⟩) 1 1)/\(D 8=true->GF false W0 V P (XA (λi=>cf ps i*q) k++[cf ps k*q]))))
     (E8 ⟨_,_,rfl,J ⟨Y,Y,Y,Y,Y,Y,Y,Y,Y,⟨λ_=>rfl,Y⟩⟩,J ⟨λ_=>Qn,Y,Y⟩⟩) ?step1 ?fin1
    case step1=>
     rintro D ad V i ds f L m n ⟨ta,tb,tc,td,te,tf,tg,U,P,W,rfl,d,A⟩;have bh:i<10:=(Ac.1 L).1;obtain rfl|rfl|rfl|rfl|rfl|rfl|rfl|rfl|rfl|rfl:=I1 i O
     all_goals
      simp only[Af,Ae,Ag]at L;subst L
     . have r:D 8=false:=DQ f n;have Qe:D 9=false:=DQ f n;obtain rfl:=ED d Qe;clear m;refine DS ?_;exact⟨(Hd (Dh d) ⟨λ_=>rfl,λh=>by simp[Qe]at h⟩),J ⟨λh=>A.o.1 (by simpa using h),λh E=>A.o.2.1 (by simpa using h) (by simpa using E),λh=>A.o.2.2 (by simpa using h)⟩⟩
     . have r:D 8=false:=DQ f (DQ (a:=7) f (DQ (a:=6) f (DQ (a:=4) f (DQ (a:=3) f n))));have v:D 7=false:=DQ f (DQ (a:=6) f (DQ (a:=4) f (DQ (a:=3) f n)));have g:=A.o.1 v;clear m;refine DS ?_;exact⟨J ⟨d.o.1,λ_=>rfl,d.o.2.2.1,d.o.2.2.2.1,d.o.2.2.2.2.1,(Dq d),(Ds d),(Du d),(D5 d),⟨λh=>(ED d) (by simpa using h),λh=>d.o.2.2.2.2.2.2.2.2.2.2 (by simpa using h)⟩⟩,J ⟨λ_=>g,λh=>by simp[v]at h,λh=>by simp[r]at h⟩⟩
     . have r:D 8=false:=DQ f (DQ (a:=7) f (DQ (a:=6) f (DQ (a:=4) f (DQ (a:=3) f n))));have v:D 7=false:=DQ f (DQ (a:=6) f (DQ (a:=4) f (DQ (a:=3) f n)));have g:=A.o.1 v;clear m;refine DS ?_;exact⟨J ⟨d.o.1,d.o.2.1,λ_=>rfl,d.o.2.2.2.1,d.o.2.2.2.2.1,(Dq d),(Ds d),(Du d),(D5 d),⟨λh=>(ED d) (by simpa using h),λh=>d.o.2.2.2.2.2.2.2.2.2.2 (by simpa using h)⟩⟩,J ⟨λ_=>g,λh=>by simp[v]at h,λh=>by simp[r]at h⟩⟩
     . have r:D 8=false:=DQ f (DQ (a:=7) f (DQ (a:=6) f (DQ (a:=4) f n)));have v:D 7=false:=DQ f (DQ (a:=6) f (DQ (a:=4) f n));have g:=A.o.1 v;obtain rfl:=d.o.2.1 (m 1 Y);obtain rfl:=d.o.2.2.1 (m 2 Y);clear m;refine DS ?_;exact⟨J ⟨d.o.1,λ_=>rfl,λ_=>rfl,λ_=>rfl,d.o.2.2.2.2.1,(Dq d),(Ds d),(Du d),(D5 d),⟨λh=>(ED d) (by simpa using h),λh=>d.o.2.2.2.2.2.2.2.2.2.2 (by simpa using h)⟩⟩,J ⟨λ_=>g,λh=>by simp[v]at h,λh=>by simp[r]at h⟩⟩
     . have r:D 8=false:=DQ f (DQ (a:=7) f (DQ (a:=6) f n));have v:D 7=false:=DQ f (DQ (a:=6) f n);have g:=A.o.1 v;obtain rfl:=d.o.2.2.2.1 (m 3 Y);obtain⟨⟨e0,e1,e2,e3⟩,hr⟩:=Qo.o V g.2;clear m;refine DS ?_;exact⟨J ⟨d.o.1,d.o.2.1,d.o.2.2.1,λ_=>rfl,λ_ _=>hr,(Dq d),(Ds d),(Du d),(D5 d),⟨λh=>(ED d) (by simpa using h),λh=>d.o.2.2.2.2.2.2.2.2.2.2 (by simpa using h)⟩⟩,J ⟨λ_=>g,λh=>by simp[v]at h,λh=>by simp[r]at h⟩⟩
     . have r:D 8=false:=DQ f (DQ (a:=7) f (DQ (a:=6) f n));have v:D 7=false:=DQ f (DQ (a:=6) f n);have g:=A.o.1 v;have n0:=Qp.o.below g.2;obtain⟨e0,e1,e2,e3⟩:=n0.cq;clear m;refine DS ?_;exact⟨J ⟨d.o.1,d.o.2.1,d.o.2.2.1,d.o.2.2.2.1,d.o.2.2.2.2.1,λ_ _=>HQ.o.below g.2,(Ds d),(Du d),(D5 d),⟨λh=>(ED d) (by simpa using h),λh=>d.o.2.2.2.2.2.2.2.2.2.2 (by simpa using h)⟩⟩,J ⟨λ_=>g,λh=>by simp[v]at h,λh=>by simp[r]at h⟩⟩
     . have r:D 8=false:=DQ f n;have v:D 7=false:=DQ f n;have g:=A.o.1 v;have Q:=d.o.2.2.2.2.1 (m 4 Y) r;have h1:=Dq d (m 5 Y) r;clear m;have HC:=J (Oy _ _ (cf ps k) q V Q h1 (HP.o.at k) Qi.o);clear Q h1;refine Jb rfl rfl λK hK=>?_;go_simp;go_wp2_with(go_at_call 44;refine HC.o.mono ?_;rintro e w5 ⟨v5,rfl,bg,T⟩)
       exact E8 ⟨_,_,rfl,J ⟨d.o.1,d.o.2.1,d.o.2.2.1,d.o.2.2.2.1,λh E=>(d.o.2.2.2.2.1 h E).below T,λh E=>((Dq d) h E).below T,λ_ _=>bg,(Du d),(D5 d),⟨λh=>(ED d) (by simpa using h),λh=>d.o.2.2.2.2.2.2.2.2.2.2 (by simpa using h)⟩⟩,J ⟨λ_=>g.below T,λh=>by simp[v]at h,λh=>by simp[r]at h⟩⟩
     . have r:D 8=false:=DQ f n;have g:=A.o.1 n;have Q:=Ds d (m 6 Y) r;obtain⟨a9,l9,c9,s9,b9,k9,d9,t9,rfl⟩:=Js.form Q;clear m;refine DS ?_;exact⟨J ⟨d.o.1,d.o.2.1,d.o.2.2.1,d.o.2.2.2.1,λh E=>(d.o.2.2.2.2.1 h E).below (Ba V _),λh E=>((Dq d) h E).below (Ba V _),λh E=>((Ds d) h E).below (Ba V _),λ_=>⟨_,_,_,rfl⟩,(D5 d),⟨λh=>(ED d) (by simpa using h),λh=>d.o.2.2.2.2.2.2.2.2.2.2 (by simpa using h)⟩⟩,J ⟨λh=>by simp at h,λ_ _=>⟨V,_,_,_,_,rfl,g,Q,rfl⟩,λh=>by simp[r]at h⟩⟩
     . obtain⟨I,x9,y9,z9,u9,rfl,g,bf,aw⟩:=A.o.2.1 (m 7 Y) n;obtain rfl:=d.o.1 (m 0 Y);have Qe:D 9=false:=DQ f n;have Qg:=m 7 Y;obtain⟨v5,w5,ah,ak,bi,T⟩:=XZ false W0.heap.size I _ _ g.1 bf (by rw[JQ];exact HK.o) g.2.size;dsimp only[GP,EI]at ah;subst aw;obtain⟨a6,c6,e6,_⟩:=ak.form;subst e6;clear m;refine Jb rfl rfl λK hK=>?_;refine Lib.wp_append_run _ _ _ 30 30 rfl _ _ rfl rfl _ _ ah (hK _ _ ?_);exact E8 ⟨_,_,rfl,J ⟨λ_=>rfl,d.o.2.1,d.o.2.2.1,d.o.2.2.2.1,λ_ h=>by simp at h,λ_ h=>by simp at h,λ_ h=>by simp at h,(Du d),λ_=>⟨_,_,_,rfl⟩,⟨λh=>(ED d) (by simpa using h),λh=>by simp[Qe]at h⟩⟩,J ⟨λh=>by simp[Qg]at h,λ_ h=>by simp at h,λ_=>⟨ak,T _ _ (Aa _) g.2⟩⟩⟩
     . clear m;refine DS ?_;exact⟨(Hd d ⟨λh=>by simp at h,λ_=>rfl⟩),J ⟨λh=>A.o.1 (by simpa using h),λh E=>A.o.2.1 (by simpa using h) (by simpa using E),λh=>A.o.2.2 (by simpa using h)⟩⟩
    case fin1=>
     rintro D ad V ae ⟨ta,tb,tc,td,te,tf,tg,U,P,W,rfl,d,A⟩;have HO:=J (A.o.2.2 (ae 8 DP));obtain rfl:=d.o.2.2.2.2.2.2.2.2.2.2 (ae 9 DP);clear d A ae;obtain⟨a9,c9,e9,_⟩:=HO.o.1.form;rw[<-Y9,JQ]at e9;subst e9;go_wp2_with fail
     go_roundw
     case rel=>exact⟨k+1,O,by go_num,⟨a9,c9,rfl⟩,J (by rw[Y9];exact HO.o)⟩
     case measure=>simp[intOf];omega
  . have Qk:k=la:=O
    subst Qk;have HT:=J (Kp _ _ wr (X.o.1.row (by rw[JQ];omega)));have HE:=J (show Jc (XA (λi=>cf ps i*q) k)=Jc (YA q ps)from YG λj=>by
     rw[Ld,Xq];split
     . rfl
     . rw[JZ (by have:=Qh.o;omega)];grind)
    rw[HE.o]at HT;go_wp2_with(go_at_call 45;refine HT.o.mono ?_;clear HT;rintro e w1 ⟨u1,rfl,ap,aq⟩;obtain⟨a7,l7,c7,rfl⟩:=ap.form)
    go_ret;exact⟨_,rfl,ap,(Bt Qd.o X.o.2).trans (aq.mono (As Qd.o.size X.o.2.size))⟩
theorem dF{ps:List Rat}(h:DZ ps):DZ (Jc (YA (-1) ps)):=DZ.of λi=>by
 rw[JX,Xq,show cf ps i*-1=-(cf ps i)from by grind];exact(h.at i).neg
theorem KU(s t:Value)(ps qs:List Rat)(w:G)(f:RowK false w s ps)(g:RowK false w t qs)(q:DZ ps)(i:DZ qs)(c:ps.length<1099511627776/\qs.length<1099511627776):
 Calls Tryz.prog 63 #[s,t] w λe v=>∃u,e=.returned u/\RowK false v u (JP ps qs)/\Bl w v:=by
 obtain⟨a,la,ca,rfl⟩:=f.form;obtain⟨b,lb,cb,rfl⟩:=g.form;obtain⟨x,m,n,d⟩:=D9 (show XV ps (Jc (YA (-1) qs))=JP ps qs from YG λj=>by rw[XD,JX,XD]) (KT (-1) O O w) (λ(V:G) (u:Value) (h:Bl w V) (l:Js V u ((-1:Int):Rat))=>Sa _ u qs (-1) V (g.below h) l i (Sq.of (k:=1) ⟨(Sm.one 1 O).neg,Sm.one 1 O⟩ O) c.2) λ(V:G) (u:Value) (h:Bl w V) (l:RowK false V u (Jc (YA (-1) qs)))=>Iq _ u ps _ V (f.below h) l q (dF i) ⟨c.1,Ck (JG _) (by unfold YA;rw[FU];exact c.2)⟩;rw[x.o]at d;clear f g q i c;go_enter Tryz.func63,Tryz.ntmps63
 go_wp2_with(first
  |(go_at_call 42;refine m.o.mono ?_;clear m;rintro e M ⟨u1,rfl,D,p⟩)
  |(go_at_call 76;refine(n.o _ _ p D).mono ?_;clear n;rintro e N ⟨u2,rfl,E,z⟩;have o:=Bt p z)
  |(go_at_call 64;refine(d.o _ _ o E).mono ?_;clear d;rintro e P ⟨u3,rfl,r,A⟩;have y:=Bt o A;obtain⟨I,L,K,rfl⟩:=r.form))
 go_ret;exact⟨_,rfl,r,y⟩
theorem Le(T:Value)(n:Nat)(q:Rat)(w:G)(hq:Js w T q)(hn:n<1099511627775):
 Calls Tryz.prog 78 #[B H (n:Int),T] w λe U=>∃u,e=.returned u/\RowK false U u (Jc (Dn n [q]))/\Bl w U:=by
 obtain⟨l,A,p,D,m,z,r,E,rfl⟩:=Js.form hq;have b0:=JS.new w 85 (C l A p) (F D) (C m z r) (F E);have d:Bl w (w.alloc (.cells #[C l A p,F D,C m z r,F E] 85)):=Ba w _;obtain⟨W0,t⟩:=ex (w.alloc (.cells #[C l A p,F D,C m z r,F E] 85));rw[t]at d b0;obtain⟨Qe,HQ,K,Qh⟩:=D9 t (hq.below d) d b0;clear hq t b0 d;go_enter Tryz.func78,Tryz.ntmps78
 go_upto_region 1 with fail
 rw[Qe.o];go_wp2;go_loopw [5,6] (λo i wr=>∃k:Nat,k<=n/\i=B H (k:Int)/\(∃R S,o=C R k S)/\Hid (GF false W0 wr o (XA (λ_=>0) k))) λ_ i _=>n-(intOf i).toNat
 case atStart=>exact⟨0,AC _,rfl,⟨_,_,rfl⟩,J ⟨Eg.nil _ _ _,BB _ _⟩⟩
 case round=>
  obtain⟨k,hk,rfl,⟨R,S,rfl⟩,a⟩:=hrel;by_cases aj:k<n
  . have ak:(k:Int)<(n:Int):=O
    have I:=J (KT 0 O O wr);have X:=J (show k+1<=1099511627776 by omega);go_wp2_with(first
     |(go_at_call 42;refine I.o.mono ?_;clear I;rintro e w3 ⟨u3,rfl,y,x⟩;obtain⟨ae,an,ah,ap,af,am,ai,aq,rfl⟩:=Js.form y;obtain⟨v9,V,f,c,v,b⟩:=XZ false W0.heap.size w3 _ _ (a.o.1.below x) y (by rw[JQ];exact X.o) (by have:=a.o.2.size;have:=x.size;omega);have L:=J c;have Qg:=J (b W0.heap.size W0 (Aa _) (Bt a.o.2 x));clear c v b y)
     |(at_builtin;refine Bh _ rfl _ _ 30 30 rfl _ _ rfl rfl _ _ f ?_))
    obtain⟨a9,c9,N,_⟩:=L.o.form;go_roundw
    case rel=>
     refine⟨k+1,O,by go_num,⟨a9,c9,?_⟩,J ⟨?_,Qg.o⟩⟩
     . rw[Aj,JQ]at N;exact N
     . rw[Y9];exact L.o
    case measure=>simp[intOf];omega
  . have Qf:k=n:=O
    subst Qf;have n0:=Qh.o.below a.o.2;obtain⟨e0,e1,e2,e3⟩:=n0.cq;obtain⟨v9,V,f,c,v,b⟩:=XZ false W0.heap.size wr _ _ a.o.1 (HQ.o.below a.o.2) (by rw[JQ];omega) a.o.2.size;dsimp only[GP,EI]at f;have W:=J (show Jc (XA (λ_=>0) k++[q])=Jc (Dn k [q])from YG λj=>by
     rw[Nc,JQ,KA,Ld];by_cases s:j=k
     . rw[BG s,BG O,s,A6,Y5]
     . rw[BC s];by_cases P:k<=j
       . rw[BG P,JZ si];split<;>rfl
       . rw[BC P];split<;>rfl)
    have M:=b W0.heap.size W0 (Aa _) a.o.2;have g:=J (Kp _ _ V (c.row (by rw[Aj,JQ];simp;omega)));rw[W.o]at g;clear c v b n0;go_wp2_with(first
     |(at_builtin;refine Bh _ rfl _ _ 30 30 rfl _ _ rfl rfl _ _ f ?_)
     |(go_at_call 45;refine g.o.mono ?_;clear g;rintro e w1 ⟨u1,rfl,Q,ad⟩;obtain⟨a7,l7,c7,rfl⟩:=Q.form))
    go_ret;exact⟨_,rfl,Q,(Bt K.o M).trans (ad.mono (As K.o.size M.size))⟩
def DX(W:G)(R:Nat)(s:ByteArray)(I E A:Int):Prop:=W.heap[R]?=some (.cells #[.string s,B H I,B H E,B H A] 106 (0,0))
section
variable {W W':World} {R:Nat} {s:ByteArray} {I E A:Int}
theorem DX.lt(h:DX W R s I E A):R<W.heap.size:=(Ab.1 h).1
theorem DX.c0(h:DX W R s I E A):W.cell? ⟨R,0,none⟩=some (.string s):=by simp[World.cell?,show W.heap[R]?=_ from h]
theorem DX.c1(h:DX W R s I E A):W.cell? ⟨R,1,none⟩=some (B H I):=by simp[World.cell?,show W.heap[R]?=_ from h]
theorem DX.cp(h:DX W R s I E A):type_of% (And.intro h.c0 h.c1):=⟨h.c0,h.c1⟩
theorem DX.c2(h:DX W R s I E A):W.cell? ⟨R,2,none⟩=some (B H E):=by simp[World.cell?,show W.heap[R]?=_ from h]
theorem DX.c3(h:DX W R s I E A):W.cell? ⟨R,3,none⟩=some (B H A):=by simp[World.cell?,show W.heap[R]?=_ from h]
theorem DX.cq(h:DX W R s I E A):type_of% (And.intro h.c0 (And.intro h.c1 (And.intro h.c2 h.c3))):=⟨h.c0,h.c1,h.c2,h.c3⟩
theorem DX.f(h:DX W R s I E A)(o:Nat):W.frozen? ⟨R,o,none⟩=false:=by simp[World.frozen?,show W.heap[R]?=_ from h]
theorem DX.below(h:DX W R s I E A)(a:Bl W W'):DX W' R s I E A:=(a.block R h.lt).trans h
theorem DX.set1(h:DX W R s I E A)(x:Int):DX (W.setCell ⟨R,1,none⟩ (B H x)) R s x E A:=by
 have:=J9 (o:=1) h (B H x);exact this
theorem DX.set2(h:DX W R s I E A)(x:Int):DX (W.setCell ⟨R,2,none⟩ (B H x)) R s I x A:=by
 have:=J9 (o:=2) h (B H x);exact this
theorem DX.set3(h:DX W R s I E A)(x:Int):DX (W.setCell ⟨R,3,none⟩ (B H x)) R s I E x:=by
 have:=J9 (o:=3) h (B H x);exact this
theorem DX.drewN(h:DX W R s I E A)(n:Nat):DX (W.drewN n) R s I E A:=h
end
variable{s:ByteArray}{I j:Nat}{c:UInt8}
theorem JO(W:G)(n:Nat)(r:Option Nat):W.grownBy (W.drewN n) r:=⟨rfl,rfl,rfl,Aa _,λ_ _ _=>rfl⟩
theorem KV(R:Nat)(s:ByteArray)(I E A e p:Int)(w:G)(h:DX w R s I E A):
 Calls Tryz.prog 66 #[.pointer (some ⟨R,0,none⟩),B H e,B H p] w λr a=>r=.returned (.tuple #[])/\DX a R s I (if E=0 then e else E) (if E=0 then p else A)/\w.grownBy a (some R):=by
 have c2:=h.c2;have f2:=h.f 2;have f3:=h.f 3;have c3:=h.c3;by_cases hE:E=0
 . rw[BG hE,BG hE];go_enter Tryz.func66,Tryz.ntmps66
   go_wp2;go_end0;exact⟨rfl,(h.set2 e).set3 p,Ji (JI w R 2 _) (JI _ R 3 _)⟩
 . rw[BC hE,BC hE];have b:(E==0)=false:=by rw[BH];exact hE
   go_enter Tryz.func66,Tryz.ntmps66
   go_wp2;go_end0;exact⟨rfl,h,YW _ _⟩
theorem NB{d:UInt8}(h:c≠d):((c.toNat:Int)==(d.toNat:Int))=false:=by
 rw[BH];intro e;exact h (DE.1 O)
theorem Jj(s:ByteArray):(Jf s).length=s.size:=by unfold Jf;simp
theorem NC{f:UInt8->Bool}(b:I<=j)(c:j<=s.size)(d:∀k (a:k<s.size),I<=k->k<j->f s[k]=true)(e:∀g:j<s.size,f s[j]=false):XM f (Jf s) I=j:=
 MD b (by rw[Jj];exact c) (λk a g1 g2=>d k (by rwa[Jj]at a) g1 g2) λa=>e (by rwa[Jj]at a)
theorem Sb(a:j<s.size):JY (Jf s) j c=(s[j]==c):=by
 unfold JY;rw[Ai (by rw[Jj];exact a)];rfl
theorem Sc(a:s.size<=j):JY (Jf s) j c=false:=by
 unfold JY;rw[At (by rw[Jj];exact a)];rfl
def F4(W:G)(R:Nat):Nat:=(intOf ((W.cell? ⟨R,1,none⟩).getD undef)).toNat
theorem Gf{W:G}{R:Nat}{E A:Int}(h:DX W R s I E A):F4 W R=I:=by
 unfold F4;rw[h.c1];simp[intOf]
theorem YX(R:Nat)(s:ByteArray)(I:Nat)(E A:Int)(c:UInt8)(w:G)(h:DX w R s I E A)(L:I<=s.size)(hs:s.size<=300):
 Calls Tryz.prog 65 #[.pointer (some ⟨R,0,none⟩),B .u8 (c.toNat:Int)] w λr v=>r=.returned (F (decide (E=0)&&JY (Jf s) (DT (Jf s) I) c))/\DX v R s (DT (Jf s) I:Nat) E A/\w.grownBy v (some R):=by
 have x:=J h;clear h;go_enter Tryz.func65,Tryz.ntmps65
 go_wp2;go_loopw [5] (λ_ wr=>∃j:Nat,I<=j/\j<=s.size/\Hid (DX wr R s j E A/\w.grownBy wr (some R)/\∀k (n:k<s.size),I<=k->k<j->s[k]=32)) λ_ wr=>s.size-F4 wr R
 case atStart=>exact⟨I,Aa _,L,J ⟨x.o,YW _ _,λk _ q t=>by omega⟩⟩
 case round=>
  obtain⟨j,q,t,a⟩:=hrel;obtain⟨c0,c1⟩:=a.o.1.cp;have c2:=a.o.1.c2;have f1:=a.o.1.f 1;by_cases u:j<s.size
  . have Q:(j:Int)<(s.size:Int):=O
    have P:(0:Int)<=(j:Int):=O
    by_cases l:s[j]=32
    . have M:((s[j].toNat:Int)==32)=true:=by rw[l];rfl
      have z:=J l;clear l;go_wp2_with fail
      go_quiet (fail)
      go_wp2;go_roundw
      case rel=>
       refine⟨j+1,O,O,J ⟨?_,Ji (Ji a.o.2.1 (JO _ _ _)) (JI _ R 1 _),λk n g1 g2=>?_⟩⟩
       . have:=(a.o.1.drewN nq).set1 ((j:Int)+1);rw[show((j:Int)+1)=((j+1:Nat):Int)from by omega]at this;exact this
       . by_cases e:k=j
         . subst e;exact z.o
         . exact a.o.2.2 k n g1 O
      case measure=>
       have D:=Gf a.o.1;have K:F4 ((wr.drewN nq).setCell ⟨R,1,none⟩ (B H ((j:Int)+1))) R=j+1:=by
        have:=(a.o.1.drewN nq).set1 ((j:Int)+1);rw[show((j:Int)+1)=((j+1:Nat):Int)from by omega]at this ⊢;exact Gf this
       show s.size-F4 ((wr.drewN nq).setCell ⟨R,1,none⟩ (B H ((j:Int)+1))) R<s.size-F4 wr R;rw[D,K];omega
    . have M:((s[j].toNat:Int)==32)=false:=NB (d:=32) l;have b:=J (show DT (Jf s) I=j from NC q t (λk n g1 g2=>by rw[a.o.2.2 k n g1 g2];rfl) λ_=>BH.2 l);have i:=J (Sb (s:=s) (c:=c) u);clear l;go_wp2_with fail
      go_quiet (fail)
      go_wp2;have g:=J (show w.grownBy (wr.drewN nq) (some R)from Ji a.o.2.1 (JO _ _ _));have f:=J (a.o.1.drewN nq);by_cases hE:E=0
      . have p:(E==0)=true:=by rw[hE];rfl
        by_cases m:s[j]=c
        . have y:((s[j].toNat:Int)==(c.toNat:Int))=true:=by rw[m];exact beq_self_eq_true _
          have o:=J (show(decide (E=0)&&(s[j]==c))=true by rw[hE,m];simp);clear m hE;go_quiet (fail)
          go_wp2;go_ret;exact⟨by rw[b.o,i.o,o.o];rfl,by rw[b.o];exact f.o.drewN _,Ji g.o (JO _ _ _)⟩
        . have y:((s[j].toNat:Int)==(c.toNat:Int))=false:=NB m;have o:=J (show(decide (E=0)&&(s[j]==c))=false by rw[BH.2 m,Bool.and_false]);clear m hE;go_quiet (fail)
          go_wp2;go_ret;exact⟨by rw[b.o,i.o,o.o];rfl,by rw[b.o];exact f.o.drewN _,Ji g.o (JO _ _ _)⟩
      . have p:(E==0)=false:=by rw[BH];exact hE
        have o:=J (show(decide (E=0)&&(s[j]==c))=false by rw[BI hE,Bool.false_and]);clear hE;go_quiet (fail)
        go_wp2;go_ret;exact⟨by rw[b.o,i.o,o.o];rfl,by rw[b.o];exact f.o.drewN _,Ji g.o (JO _ _ _)⟩
  . have N:decide (j<s.size)=false:=BI O;have b:=J (show DT (Jf s) I=j from NC q t (λk n g1 g2=>by rw[a.o.2.2 k n g1 g2];rfl) λh=>by omega);have i:=J (Sc (s:=s) (j:=j) (c:=c) O);clear u;go_wp2_with fail
    go_quiet (fail)
    go_wp2;have g:=J (show w.grownBy (wr.drewN nq) (some R)from Ji a.o.2.1 (JO _ _ _));have f:=J (a.o.1.drewN nq);by_cases hE:E=0
    . have p:(E==0)=true:=by rw[hE];rfl
      clear hE;go_quiet (fail)
      go_wp2;go_ret;exact⟨by rw[b.o,i.o,Bool.and_false];rfl,by rw[b.o];exact f.o.drewN _,Ji g.o (JO _ _ _)⟩
    . have p:(E==0)=false:=by rw[BH];exact hE
      clear hE;go_quiet (fail)
      go_wp2;go_ret;exact⟨by rw[b.o,i.o,Bool.and_false];rfl,by rw[b.o];exact f.o.drewN _,Ji g.o (JO _ _ _)⟩
end
section
attribute [local go_sem] Oper.semAt_some
variable{l:List UInt8}{d n p:Nat}
theorem Sd(c:UInt8)(w:G):Calls Tryz.prog 130 #[B .u8 (c.toNat:Int)] w λr e=>r=.returned (F (Da c))/\e=w:=by
 by_cases b:48<=c.toNat
 . have g1:decide ((48:Int)<=(c.toNat:Int))=true:=BK O;by_cases d:c.toNat<=57
   . have a:=J (show Da c=true by simp[Da,b,d]);go_enter Tryz.func130,Tryz.ntmps130
     go_wp2;go_ret;exact⟨by rw[a.o];simp;omega,rfl⟩
   . have a:=J (show Da c=false by simp[Da,d]);go_enter Tryz.func130,Tryz.ntmps130
     go_wp2;go_ret;exact⟨by rw[a.o];simp;omega,rfl⟩
 . have a:=J (show Da c=false by simp[Da,b]);go_enter Tryz.func130,Tryz.ntmps130
   go_wp2;go_ret;exact⟨by rw[a.o];rfl,rfl⟩
theorem Yf(R:Nat)(s:ByteArray)(I:Nat)(E A:Int)(c:UInt8)(w:G)(h:DX w R s I E A)(j:I<=s.size)(hs:s.size<=300)(b:Bool)(l:b=(decide (E=0)&&JY (Jf s) (DT (Jf s) I) c)):
 Calls Tryz.prog 61 #[.pointer (some ⟨R,0,none⟩),B .u8 (c.toNat:Int)] w λr m=>r=.returned (F b)/\DX m R s ((DT (Jf s) I+(if b then 1 else 0):Nat):Int) E A/\w.grownBy m (some R):=by
 have d:=J (YX R s I E A c w h j hs);have k:=J (show DT (Jf s) I<=300 from As (YK (by rw[Jj];exact j)) (by rw[Jj];exact hs));rw[<-l]at d;clear h j hs l;cases b
 . go_enter Tryz.func61,Tryz.ntmps61
   go_wp2_with first
    |(go_at_call 65;refine d.o.mono ?_;clear d;rintro e n ⟨rfl,a,f⟩;have i:=J a;clear a;have g:=J f;clear f)
   go_ret;exact⟨rfl,i.o,g.o⟩
 . go_enter Tryz.func61,Tryz.ntmps61
   go_wp2_with first
    |(go_at_call 65;refine d.o.mono ?_;clear d;rintro e n ⟨rfl,a,f⟩;have i:=J a;have c1:=a.c1;have f1:=a.f 1;clear a;have g:=J f;clear f;have o:=k.o;clear k)
   go_ret;exact⟨rfl,i.o.set1 _,Ji g.o (JI _ R 1 _)⟩
theorem Se(h:l.all Da=true):num l<10^l.length:=by
 have:=Yu (MB h);rwa[LH]at this
def YZ(l:List UInt8)(p d n:Nat):Prop:=p+d<=l.length/\((l.drop p).take d).all Da=true/\n=num ((l.drop p).take (min 12 d))
theorem YZ.zero(h:p<=l.length):YZ l p 0 0:=⟨O,Y,by simp[num,EG,val]⟩
theorem Sf(l:List UInt8)(p d:Nat)(h:p+d<l.length):(l.drop p).take (d+1)=(l.drop p).take d++[l[p+d]]:=by
 rw[Cl (by rw[AX];omega),Fj]
theorem YZ.all{l:List UInt8}{p d n:Nat}(h:YZ l p d n)(hl:p+d<l.length)(a:Da l[p+d]=true):((l.drop p).take (d+1)).all Da=true:=by
 rw[Sf l p d hl,Fy,h.2.1];simp[a]
theorem YZ.next1(h:YZ l p d n)(hl:p+d<l.length)(a:Da l[p+d]=true)(b:d<12):YZ l p (d+1) (10*n+(l[p+d].toNat-48)):=by
 refine⟨O,h.all hl a,?_⟩;rw[show min 12 (d+1)=d+1 from by omega,Sf l p d hl,Nq,h.2.2,show min 12 d=d from by omega];omega
theorem YZ.next2(h:YZ l p d n)(hl:p+d<l.length)(a:Da l[p+d]=true)(b:12<=d):YZ l p (d+1) n:=by
 refine⟨O,h.all hl a,?_⟩;rw[show min 12 (d+1)=min 12 d from by omega];exact h.2.2
theorem YZ.lt(h:YZ l p d n):n<10^min 12 d:=by
 have e:((l.drop p).take (min 12 d)).all Da=true:=by
  rw[A7];intro c b;refine A7.1 h.2.1 c ?_;rw[show(l.drop p).take (min 12 d)=((l.drop p).take d).take (min 12 d)from by rw[List.take_take];congr 1;omega]at b;exact FE b
 have a:=Se e;rw[Am,AX,<-h.2.2]at a;have:=h.1;rwa[show min (min 12 d) (l.length-p)=min 12 d from by omega]at a
theorem YZ.lt12(h:YZ l p d n):n<1000000000000:=
 AH h.lt (Ax (n:=10) O (by omega:min 12 d<=12))
theorem YZ.lt11(h:YZ l p d n)(a:d<12):n<100000000000:=
 AH h.lt (Ax (n:=10) O (by omega:min 12 d<=11))
theorem YZ.dg(h:YZ l p d n)(a:∀hl:p+d<l.length,Da l[p+d]=false):Ed l p=p+d:=by
 refine MD O h.1 (λk e b c=>?_) a;have:=A7.1 h.2.1 (l[k]) ?_
 . exact this
 . rw[List.mem_iff_getElem];refine⟨k-p,by rw[Am,AX];omega,?_⟩;rw[List.getElem_take,Fj];congr 1;omega
def EP{α:Type}(r:Rd α)(E:Int):Int:=if E=0 then(match r with|.bad e _=>(e:Int)|.ok _ _=>0)else E
def Eh{α:Type}(r:Rd α)(E A:Int):Int:=if E=0 then(match r with|.bad _ p=>(p:Int)|.ok _ _=>A)else A
theorem O0(R:Nat)(s:ByteArray)(I:Nat)(E A:Int)(p:Nat)(w:G)(h:DX w R s I E A)(hI:I<=s.size)(hs:s.size<=300)(hp:DT (Jf s) I=p):
 Calls Tryz.prog 102 #[.pointer (some ⟨R,0,none⟩)] w λr w'=>∃d n:Nat,r=.returned (.tuple #[B H (n:Int),B H (p:Int)])/\Ed (Jf s) p=p+d/\YZ (Jf s) p d n/\DX w' R s ((p+d:Nat):Int) (EP (J8 (Jf s) I) E) (Eh (J8 (Jf s) I) E A)/\w.grownBy w' (some R):=by
 have W:=J (YX R s I E A 32 w h hI hs);rw[hp]at W;have Qn:p<=s.size:=by rw[<-hp];exact As (YK (by rw[Jj];exact hI)) (by rw[Jj];exact Aa _)
 have P:=J hp;have u:=J λ(x y:Int) (I':Int) (V:G) (hh:DX V R s I' E A)=>KV R s I' E A x y V hh;clear h hI hp;go_enter Tryz.func102,Tryz.ntmps102
 go_wp2_with first
  |(go_at_call 65;refine W.o.mono ?_;clear W;rintro e w1 ⟨rfl,ad,ae⟩;have Qm:=J ad;have c1:=ad.c1;clear ad;have Qo:=J ae;clear ae)
 go_loopw [5] (λnv wr=>∃d n:Nat,nv=B H (n:Int)/\p+d<=s.size/\Hid (DX wr R s ((p+d:Nat):Int) E A/\w.grownBy wr (some R)/\YZ (Jf s) p d n)) λ_ wr=>s.size-F4 wr R
 case atStart=>exact⟨0,0,rfl,O,J ⟨Qm.o,Qo.o,YZ.zero (by rw[Jj];exact Qn)⟩⟩
 case round=>
  clear c1;obtain⟨d,n,rfl,af,c⟩:=hrel;obtain⟨j,hj⟩:∃j,j=p+d:=⟨_,rfl⟩;have b:=J hj;rw[<-hj]at af c;have aj:(j:Int)-(p:Int)=(d:Int):=O
  clear hj;obtain⟨c0,c1⟩:=c.o.1.cp;have f1:=c.o.1.f 1;by_cases ak:j<s.size
  . have am:(j:Int)<(s.size:Int):=O
    have ai:(0:Int)<=(j:Int):=O
    by_cases o:Da s[j]=true
    . have Q:=J (Sd s[j]);rw[o]at Q;have ah:=Y8 o;have Ql:=J o;clear o;go_wp2_with fail
      go_quiet ((go_at_call 130;exact Calls.quiet_of_same (Q.o _)))
      obtain⟨N,h0⟩:∃k,k=nq:=⟨nq,rfl⟩;subst h0;have q:=J (show DX (wr.drewN N) R s (j:Int) E A/\w.grownBy (wr.drewN N) (some R)/\YZ (Jf s) p d n from⟨c.o.1.drewN N,Ji c.o.2.1 (JO _ _ _),c.o.2.2⟩);have Qk:=J (Gf c.o.1);clear Q;by_cases U:d<12
      . have T:(d:Int)<12:=O
        have hn:=q.o.2.2.lt11 U;go_wp2;go_quiet (fail)
        go_wp2;go_roundw
        case rel=>
         refine⟨d+1,10*n+(s[j].toNat-48),?_,?_,J ⟨?_,?_,?_⟩⟩
         . congr 1;omega
         . have:=b.o;omega
         . have:=(c.o.1.drewN (N+nq)).set1 ((j:Int)+1);rw[show((j:Int)+1)=((p+(d+1):Nat):Int)from by have:=b.o;omega]at this ⊢;exact this
         . exact Ji (Ji c.o.2.1 (JO _ _ _)) (JI _ R 1 _)
         . have:=c.o.2.2.next1 (by rw[Jj];have:=b.o;omega) (by simp only[<-b.o];exact Ql.o) U;simp only[<-b.o]at this;exact this
        case measure=>
         have S:=Gf ((c.o.1.drewN (N+nq)).set1 ((j+1:Nat):Int));rw[show((j+1:Nat):Int)=(j:Int)+1 from by omega]at S;rw[S,Qk.o];omega
      . have T:¬(d:Int)<12:=O
        go_wp2;go_roundw
        case rel=>
         refine⟨d+1,n,rfl,?_,J ⟨?_,?_,?_⟩⟩
         . have:=b.o;omega
         . have:=(c.o.1.drewN N).set1 ((j:Int)+1);rw[show((j:Int)+1)=((p+(d+1):Nat):Int)from by have:=b.o;omega]at this ⊢;exact this
         . exact Ji (Ji c.o.2.1 (JO _ _ _)) (JI _ R 1 _)
         . exact c.o.2.2.next2 (by rw[Jj];have:=b.o;omega) (by simp only[<-b.o];exact Ql.o) O
        case measure=>
         have S:=Gf ((c.o.1.drewN N).set1 ((j+1:Nat):Int));rw[show((j+1:Nat):Int)=(j:Int)+1 from by omega]at S;rw[S,Qk.o];omega
    . have Q:=J (Sd s[j]);have o:=Bool.eq_false_iff.2 o;rw[o]at Q;have i:=J (show Ed (Jf s) p=j by rw[b.o];exact c.o.2.2.dg λhl=>by simp only[<-b.o];exact o);clear o;go_wp2_with fail
      go_quiet ((go_at_call 130;exact Calls.quiet_of_same (Q.o _)))
      obtain⟨D,z,L⟩:=Di (c.o.1.drewN nq) (show w.grownBy (wr.drewN nq) (some R)from Ji c.o.2.1 (JO _ _ _)) c.o.2.2;clear c;by_cases M:d=0
      . have l:j=p:=by have:=b.o;omega
        have g:=J (show J8 (Jf s) I=.bad 2 p by unfold J8;rw[P.o,i.o,BG l]);clear M;go_wp2_with first
         |(go_at_call 66;refine(u.o _ _ _ _ D.o).mono ?_;clear u;rintro e w2 ⟨rfl,f,m⟩;have q:=J f;have X:=f.c1;clear f;have K:=J (Ji z.o m);clear m)
        refine BA (v:=.tuple #[B H (n:Int),B H (p:Int)]) (by simp[results,Tryz.results102,go_sem]) rfl ⟨d,n,rfl,by rw[i.o];exact b.o,L.o,?_,K.o⟩;rw[<-b.o];have:=q.o;rw[g.o];exact this
      . by_cases U:12<d
        . have l:¬j=p:=by have:=b.o;omega
          have Qj:((j:Int)==(p:Int))=false:=by rw[BH];omega
          have T:(12:Int)<(d:Int):=O
          have g:=J (show J8 (Jf s) I=.bad 3 p by unfold J8;rw[P.o,i.o,BC l,BG (by have:=b.o;omega)]);clear M;go_wp2_with first
           |(go_at_call 66;refine(u.o _ _ _ _ D.o).mono ?_;clear u;rintro e w2 ⟨rfl,f,m⟩;have q:=J f;have X:=f.c1;clear f;have K:=J (Ji z.o m);clear m)
          refine BA (v:=.tuple #[B H (n:Int),B H (p:Int)]) (by simp[results,Tryz.results102,go_sem]) rfl ⟨d,n,rfl,by rw[i.o];exact b.o,L.o,?_,K.o⟩;rw[<-b.o];have:=q.o;rw[g.o];exact this
        . have l:¬j=p:=by have:=b.o;omega
          have Qj:((j:Int)==(p:Int))=false:=by rw[BH];omega
          have T:¬(12:Int)<(d:Int):=O
          have t:∃a k,J8 (Jf s) I=.ok a k:=by unfold J8;rw[P.o,i.o,BC l,BC (by have:=b.o;omega)];exact⟨_,_,rfl⟩
          obtain⟨a,k,t⟩:=t;have g:=J (show EP (J8 (Jf s) I) E=E/\Eh (J8 (Jf s) I) E A=A by rw[t];unfold EP Eh;constructor<;>(by_cases hE:E=0<;>simp[hE]));clear t;clear M;go_wp2;refine BA (v:=.tuple #[B H (n:Int),B H (p:Int)]) (by simp[results,Tryz.results102,go_sem]) rfl ⟨d,n,rfl,by rw[i.o];exact b.o,L.o,?_,z.o⟩;rw[show((p:Int)+(d:Int))=(j:Int)from by have:=b.o;omega,g.o.1,g.o.2];exact D.o
  . have i:=J (show Ed (Jf s) p=j by rw[b.o];exact c.o.2.2.dg λhl=>absurd hl (by rw[Jj];have:=b.o;omega));go_wp2_with fail
    go_quiet (fail)
    obtain⟨D,z,L⟩:=Di (c.o.1.drewN nq) (show w.grownBy (wr.drewN nq) (some R)from Ji c.o.2.1 (JO _ _ _)) c.o.2.2;clear c;by_cases M:d=0
    . have l:j=p:=by have:=b.o;omega
      have g:=J (show J8 (Jf s) I=.bad 2 p by unfold J8;rw[P.o,i.o,BG l]);clear M;go_wp2_with first
       |(go_at_call 66;refine(u.o _ _ _ _ D.o).mono ?_;clear u;rintro e w2 ⟨rfl,f,m⟩;have q:=J f;have X:=f.c1;clear f;have K:=J (Ji z.o m);clear m)
      refine BA (v:=.tuple #[B H (n:Int),B H (p:Int)]) (by simp[results,Tryz.results102,go_sem]) rfl ⟨d,n,rfl,by rw[i.o];exact b.o,L.o,?_,K.o⟩;rw[<-b.o];have:=q.o;rw[g.o];exact this
    . by_cases U:12<d
      . have l:¬j=p:=by have:=b.o;omega
        have Qj:((j:Int)==(p:Int))=false:=by rw[BH];omega
        have T:(12:Int)<(d:Int):=O
        have g:=J (show J8 (Jf s) I=.bad 3 p by unfold J8;rw[P.o,i.o,BC l,BG (by have:=b.o;omega)]);clear M;go_wp2_with first
         |(go_at_call 66;refine(u.o _ _ _ _ D.o).mono ?_;clear u;rintro e w2 ⟨rfl,f,m⟩;have q:=J f;have X:=f.c1;clear f;have K:=J (Ji z.o m);clear m)
        refine BA (v:=.tuple #[B H (n:Int),B H (p:Int)]) (by simp[results,Tryz.results102,go_sem]) rfl ⟨d,n,rfl,by rw[i.o];exact b.o,L.o,?_,K.o⟩;rw[<-b.o];have:=q.o;rw[g.o];exact this
      . have l:¬j=p:=by have:=b.o;omega
        have Qj:((j:Int)==(p:Int))=false:=by rw[BH];omega
        have T:¬(12:Int)<(d:Int):=O
        have t:∃a k,J8 (Jf s) I=.ok a k:=by unfold J8;rw[P.o,i.o,BC l,BC (by have:=b.o;omega)];exact⟨_,_,rfl⟩
        obtain⟨a,k,t⟩:=t;have g:=J (show EP (J8 (Jf s) I) E=E/\Eh (J8 (Jf s) I) E A=A by rw[t];unfold EP Eh;constructor<;>(by_cases hE:E=0<;>simp[hE]));clear t;clear M;go_wp2;refine BA (v:=.tuple #[B H (n:Int),B H (p:Int)]) (by simp[results,Tryz.results102,go_sem]) rfl ⟨d,n,rfl,by rw[i.o];exact b.o,L.o,?_,z.o⟩;rw[show((p:Int)+(d:Int))=(j:Int)from by have:=b.o;omega,g.o.1,g.o.2];exact D.o
end
section
def Rd.pos{α:Type}(r:Rd α):Prop:=∀e p,r=.bad e p->e≠0
variable{E:Int}{l:List UInt8}{j k p:Nat}
theorem F9{α:Type}{r:Rd α}{a:α}(h:r=.ok a k)(E A:Int):EP r E=E/\Eh r E A=A:=by
 subst h;unfold EP Eh;constructor
 . by_cases hE:E=0
   . rw[BG hE,hE]
   . rw[BC hE]
 . by_cases hE:E=0
   . rw[BG hE]
   . rw[BC hE]
theorem dG{α:Type}{r:Rd α}{e:Nat}(h:r=.bad e p)(A:Int):EP r 0=(e:Int)/\Eh r 0 A=(p:Int):=by
 subst h;exact⟨rfl,rfl⟩
theorem IU{α:Type}(r:Rd α)(h:E≠0)(A:Int):EP r E=E/\Eh r E A=A:=by
 unfold EP Eh;exact⟨BC h,BC h⟩
theorem ND{α:Type}{r:Rd α}(hp:r.pos)(h:EP r E=0):E=0/\∃a k,r=.ok a k:=by
 by_cases hE:E=0
 . refine⟨hE,?_⟩;cases r with
   |ok a k=>exact⟨a,k,rfl⟩
   |bad e p=>
    exfalso
    rw[hE,(dG rfl 0).1]at h;exact hp e p rfl O
 . rw[(IU r hE 0).1]at h;exact absurd h hE
theorem Kq(l:List UInt8)(i:Nat):(J8 l i).pos:=by
 intro e p h;unfold J8 at h;split at h
 . cases h;decide
 . split at h
   . cases h;decide
   . cases h
theorem dH(l:List UInt8)(i:Nat):(Yq l i).pos:=by
 intro e p h;unfold Yq at h;split at h
 . rename_i b c a;cases h;exact Kq l i _ _ a
 . split at h
   . split at h
     . rename_i b c a;cases h;exact Kq _ _ _ _ a
     . split at h
       . cases h;decide
       . cases h
   . cases h
theorem dI(l:List UInt8)(i:Nat):(ER l i).pos:=by
 intro e p h;unfold ER at h;split at h
 . split at h
   . rename_i b c a;cases h;exact Kq _ _ _ _ a
   . split at h
     . cases h;decide
     . cases h
 . cases h
theorem KW(l:List UInt8)(i:Nat):DT l (DT l i)=DT l i:=VX _ l i
theorem Sg(l:List UInt8)(i:Nat):J8 l (DT l i)=J8 l i:=by unfold J8;rw[KW]
theorem dJ(l:List UInt8)(i:Nat):Yq l (DT l i)=Yq l i:=by unfold Yq;rw[Sg]
def GQ(l:List UInt8)(i:Nat):Rd Rat:=if JY l (DT l i) 120 then .ok 1 (DT l i)else Yq l i
theorem Sh(l:List UInt8)(i:Nat):(GQ l i).pos:=by
 unfold GQ;split
 . intro e p h;cases h
 . exact dH l i
theorem Si(h:GX l j=false):Ed l j=j:=by
 rcases AR j l.length with a|a
 . refine MD (Aa _) O (λk _ c d=>by omega) λb=>?_;unfold GX at h;rw[Ai b]at h;simpa using h
 . unfold Ed XM;rw[AU a];rfl
theorem dK(h:GX l j=true):JY l j 120=false:=by
 unfold GX at h;unfold JY;cases b:l[j]? with
 |none=>rfl
 |some c=>
  rw[b]at h;simp only[Fk,Fq]at h;have a:=Y8 h;rw[BH];intro e;cases e;simp at a
theorem Ir(l:List UInt8)(i:Nat):J3 l i=match GQ l i with
 |.bad e p=>.bad e p
 |.ok c k=>if JY l (DT l k) 120 then(match ER l (DT l k+1)with|.bad e p=>.bad e p|.ok n m=>.ok (c,n) m)else .ok (c,0) (DT l k):=by
 unfold J3 GQ;cases a:GX l (DT l i)with
 |true=>
  rw[dK a,dJ];simp only[if_true,Ce,if_false];cases Yq l i<;>rfl
 |false=>
  simp only[Ce,if_false];cases b:JY l (DT l i) 120 with
  |true=>
   simp only[if_true,KW,b];cases ER l (DT l i+1)<;>rfl
  |false=>
   simp only[Ce,if_false];unfold Yq J8;rw[BG (Si a)]
theorem YZ.of_ok{i d n:Nat}(h:YZ l p d n)(hp:DT l i=p)(c:Ed l p=p+d){ds:List UInt8}{b:Nat}(a:J8 l i=.ok (ds,b) k):b=p/\k=p+d/\num ds=n:=by
 unfold J8 at a;rw[hp,c]at a;split at a
 . cases a
 . split at a
   . cases a
   . rename_i e f;simp only[Rd.ok.injEq,Prod.mk.injEq]at a;obtain⟨⟨rfl,rfl⟩,rfl⟩:=a;refine⟨rfl,rfl,?_⟩;rw[h.2.2,show p+d-p=d from by omega,show min 12 d=d from by omega]
section
variable {W W':World} {R:Nat} {s:ByteArray} {I E A:Int}
variable{v:Value}
theorem NE(h:DX W R s I E A){cs:Array Value}{t:TypeId}{m:Nat × Nat}{b:Nat}(a:W.heap[b]?=some (.cells cs t m))(c:t≠106):b≠R:=by
 intro e;subst e;have:=a.symm.trans h;simp only[Ag,Bn]at this;exact c this.2.1
theorem Sj(h:DX W R s I E A)(g:W.grownBy W' (some R)):∀k v ds,Row k W v ds->Row k W' v ds:=by
 intro k v ds c;obtain⟨a,cap,e,_⟩:=id c;subst e;refine c.grown g λp d hl=>?_;obtain⟨b,off,f,cs,m,i⟩:=c.typ hl;rw[f]at d;cases d;exact NE h i (by cases k<;>(show _≠_;decide))
theorem Js.rd{q:Rat}(b:Js W v q)(h:DX W R s I E A)(a:W.grownBy W' (some R)):Js W' v q:=EO.keep (r:=false) b (Sj h a)
theorem RowK.rd{qs:List Rat}(m:RowK false W v qs)(h:DX W R s I E A)(f:W.grownBy W' (some R)):RowK false W' v qs:=by
 obtain⟨a,cap,e,i,j,k,c⟩:=m;refine⟨a,cap,e,i,j,k,?_⟩;rcases c with c|⟨b,g,d⟩
 . exact Or.inl c
 . refine Or.inr ⟨b,g,d.keep (f.block b d.lt ?_) (Sj h f)⟩;obtain⟨cs,l,_⟩:=d;have:=NE h l (by show(85:TypeId)≠_;decide);intro e;cases e;exact this rfl
end
def GR(w V:G)(R B:Nat)(s:ByteArray)(I E A:Int)(c:Rat):Prop:=
 DX V R s I E A/\(∃a l ca e b k d t,JS V B 85 (C a l ca) (F e) (C b k d) (F t)/\Js V (.agg #[C a l ca,F e,C b k d,F t]) c)/\w.grownBy V (some R)/\w.heap.size<=B
section
variable {w V V':World} {R B:Nat} {s:ByteArray} {I E A I' E' A':Int} {c:Rat}
theorem GR.below(h:GR w V R B s I E A c)(e:Bl V V'):GR w V' R B s I E A c:=by
 obtain⟨f,⟨a,l,ca,n,b,k,d,t,g,i⟩,j,m⟩:=h;exact⟨f.below e,⟨a,l,ca,n,b,k,d,t,g.below e,i.below e⟩,Ji j (Yb e _),m⟩
theorem GR.rd(h:GR w V R B s I E A c)(p:DX V' R s I' E' A')(g:V.grownBy V' (some R)):GR w V' R B s I' E' A' c:=by
 obtain⟨i,⟨a,l,ca,q,b,k,d,t,f,m⟩,n,o⟩:=h;have j:B≠R:=NE i f DP;exact⟨p,⟨a,l,ca,q,b,k,d,t,(g.block B f.lt λe=>j (Cm e)).trans f,m.rd i g⟩,Ji n g,o⟩
theorem Yj{w V:G}{r:Option Nat}{B:Nat}(h:w.grownBy V r)(s:w.heap.size<=B)(o:Nat)(x:Value):w.grownBy (V.setCell ⟨B,o,none⟩ x) r:=by
 have n:=JI V B o x;obtain⟨a,b,c,d,f⟩:=h;obtain⟨g,j,k,l,m⟩:=n;exact⟨g.trans a,j.trans b,k.trans c,As d l,λi p q=>(m i O (by intro e;cases e;omega)).trans (f i p q)⟩
theorem GR.put(h:GR w V R B s I E A c){a:Option Addr}{l ca:Nat}{j:Bool}{b:Option Addr}{k d:Nat}{t:Bool}{c':Rat}(q:Js V (.agg #[C a l ca,F j,C b k d,F t]) c'):
 GR w (put4 V B (C a l ca) (F j) (C b k d) (F t)) R B s I E A c':=by
 obtain⟨n,⟨u,z,v,D,b0,y,d0,K,m,x⟩,p,f⟩:=h;have i:R≠B:=λe=>NE n m DP e.symm;refine⟨?_,⟨a,l,ca,j,b,k,d,t,m.put _ _ _ _,EO.keep (r:=false) q λ_ _ _ g=>Row.put4 g m rfl rfl rfl rfl _ _ _ _⟩,Yj (Yj (Yj (Yj p f 0 _) f 1 _) f 2 _) f 3 _,f⟩;have o:=(BD V ⟨B,0,none⟩ (C a l ca) R i).trans n;have g1:=(BD _ ⟨B,1,none⟩ (F j) R i).trans o;have g2:=(BD _ ⟨B,2,none⟩ (C b k d) R i).trans g1;exact(BD _ ⟨B,3,none⟩ (F t) R i).trans g2
end
end
attribute [local go_sem] Oper.semAt_some
variable{A E g i:Int}{l:List UInt8}{I b d n p:Nat}{c:Rat}
theorem DY.word(h:n<1000000000000):DY (n:Int):=DY.of (k:=1) (by unfold Sm Z;omega) O
def GG(c:Rat):Prop:=∃x y:Nat,c=Rat.divInt (x:Int) (y:Int)/\x<1000000000000/\y≠0/\y<1000000000000
theorem GG.one:GG 1:=⟨1,1,DP,O,O,O⟩
def GT(l:List UInt8)(I:Nat)(E A:Int)(c:Rat)(a:Nat)(d b:Int):Prop:=
 d=EP (GQ l I) E/\b=Eh (GQ l I) E A/\GG c/\a<=l.length/\(E=0->∀c0 k,GQ l I=.ok c0 k->c=c0/\a=k)
theorem dL(b:I<=l.length)(h:(decide (E=0)&&JY l (DT l I) 120)=true):GT l I E A 1 (DT l I) E A:=by
 rw[AP]at h;have e:GQ l I=.ok 1 (DT l I):=by unfold GQ;rw[BG h.2]
 refine⟨(F9 e E A).1.symm,(F9 e E A).2.symm,GG.one,YK b,λ_ c0 k a=>?_⟩;rw[e]at a;cases a;exact⟨rfl,rfl⟩
theorem Sk(h:(decide (E=0)&&JY l (DT l I) 120)=false)(hE:E=0):GQ l I=Yq l I:=by
 rw[hE]at h;simp at h;unfold GQ;rw[h];simp
theorem O1(n:Nat):Rat.divInt (n:Int) 1=((n:Int):Rat):=by
 rw[<-Ff ((n:Int):Rat)];simp
theorem dM(h:(decide (E=0)&&JY l (DT l I) 120)=false)(hp:DT l I=p)(r:Ed l p=p+d)(m:YZ l p d n)
(f:(decide (EP (J8 l I) E=0)&&JY l (DT l (p+d)) 47)=false):GT l I E A (Rat.divInt (n:Int) 1) (DT l (p+d)) (EP (J8 l I) E) (Eh (J8 l I) E A):=by
 have i:GG (Rat.divInt (n:Int) 1):=⟨n,1,rfl,m.lt12,O,O⟩;have c:DT l (p+d)<=l.length:=YK m.1;by_cases hE:E=0
 . rw[GT,Sk h hE];subst hE;cases b:J8 l I with
   |bad e q=>
    have g:Yq l I=.bad e q:=by unfold Yq;rw[b]
    rw[g];exact⟨rfl,rfl,i,c,λ_ c0 k j=>by cases j⟩
   |ok a k=>
    obtain⟨ds,s⟩:=a;obtain⟨rfl,rfl,rfl⟩:=m.of_ok hp r b;rw[b,(F9 rfl 0 0).1]at f;simp at f;have g:Yq l I=.ok ((num ds:Int):Rat) (DT l (s+d)):=by unfold Yq;rw[b];simp[f]
    rw[g];refine⟨rfl,rfl,i,c,λ_ c0 k j=>?_⟩;cases j;exact⟨O1 _,rfl⟩
 . refine⟨?_,?_,i,c,λo=>absurd o hE⟩
   . rw[(IU _ hE A).1,(IU _ hE A).1]
   . rw[(IU _ hE A).2,(IU _ hE A).2]
theorem dN{o u:Nat}(h:(decide (E=0)&&JY l (DT l I) 120)=false)(hp:DT l I=p)(M:Ed l p=p+d)(w:YZ l p d n)
(m:(decide (EP (J8 l I) E=0)&&JY l (DT l (p+d)) 47)=true)(P:DT l (DT l (p+d)+1)=b)(N:Ed l b=b+o)(i:YZ l b o u)(f v:Int)(r:f=EP (J8 l (DT l (p+d)+1)) (EP (J8 l I) E))(hA2:v=Eh (J8 l (DT l (p+d)+1)) (EP (J8 l I) E) (Eh (J8 l I) E A)):
 (u=0->GT l I E A (Rat.divInt (n:Int) 1) (b+o) (if f=0 then 4 else f) (if f=0 then(b:Int)else v))/\(u≠0->GT l I E A (Rat.divInt (n:Int) (u:Int)) (b+o) f v):=by
 rw[AP,BR]at m;obtain⟨hE,a,k,t⟩:=ND (Kq l I) m.1;obtain⟨ds,Q⟩:=a;obtain⟨rfl,rfl,rfl⟩:=w.of_ok hp M t;subst hE;have z:GG (Rat.divInt (num ds:Int) 1):=⟨num ds,1,rfl,w.lt12,O,O⟩;rw[m.1]at r hA2;rw[t,(F9 rfl 0 A).2]at hA2;unfold GT;rw[Sk h rfl];cases c:J8 l (DT l (Q+d)+1)with
 |bad e q=>
  have s:Yq l I=.bad e q:=by unfold Yq;rw[t];simp[m.2,c]
  have R:=Kq _ _ _ _ c;rw[c]at r hA2;have L:f=(e:Int):=r;have K:v=(q:Int):=hA2;have x:¬f=0:=O
  rw[s,BC x,BC x,L,K];refine⟨λ_=>⟨rfl,rfl,z,i.1,λ_ c0 k g=>by cases g⟩,λj=>⟨rfl,rfl,⟨num ds,u,rfl,w.lt12,j,i.lt12⟩,i.1,λ_ c0 k g=>by cases g⟩⟩
 |ok a k=>
  obtain⟨y,D⟩:=a;obtain⟨rfl,rfl,rfl⟩:=i.of_ok P N c;rw[c,(F9 rfl 0 A).1]at r;rw[c,(F9 rfl 0 A).2]at hA2;subst r hA2;rw[BG rfl,BG rfl];refine⟨λj=>?_,λj=>?_⟩
  . have s:Yq l I=.bad 4 D:=by unfold Yq;rw[t];simp[m.2,c,j]
    rw[s];exact⟨rfl,rfl,z,i.1,λ_ c0 k g=>by cases g⟩
  . have s:Yq l I=.ok (Rat.divInt (num ds) (num y)) (D+o):=by unfold Yq;rw[t];simp[m.2,c,j]
    rw[s];refine⟨rfl,rfl,⟨num ds,num y,rfl,w.lt12,j,i.lt12⟩,i.1,λ_ c0 k g=>?_⟩;cases g;exact⟨rfl,rfl⟩
def X0(l:List UInt8)(I:Nat)(E A:Int)(c:Rat)(n I':Nat)(E' A':Int):Prop:=
 E'=EP (J3 l I) E/\A'=Eh (J3 l I) E A/\(E=0->∀c0 n0 k,J3 l I=.ok (c0,n0) k->c=c0/\n=n0/\I'=k)
theorem GT.zero(h:GT l I E A c b g i)(e:g=0):E=0/\i=A/\GQ l I=.ok c b:=by
 have d:=h.1;rw[e]at d;obtain⟨hE,c0,k,a⟩:=ND (Sh l I) d.symm;obtain⟨rfl,rfl⟩:=h.2.2.2.2 hE c0 k a;exact⟨hE,h.2.1.trans (F9 a E A).2,a⟩
theorem GT.set(h:GT l I E A c b g i)(o:g≠0)(n I':Nat):X0 l I E A c n I' g i:=by
 by_cases hE:E=0
 . subst hE;cases f:GQ l I with
   |ok c0 k=>
    have:=h.1;rw[f,(F9 rfl 0 A).1]at this;exact absurd this o
   |bad e p=>
    have j:J3 l I=.bad e p:=by rw[Ir,f]
    have a:=h.1;have d:=h.2.1;rw[f]at a d;exact⟨by rw[j];exact a,by rw[j];exact d,λ_ c0 n0 k m=>by rw[j]at m;cases m⟩
 . have a:=h.1;have d:=h.2.1;rw[(IU _ hE A).1]at a;rw[(IU _ hE A).2]at d;exact⟨by rw[(IU _ hE A).1];exact a,by rw[(IU _ hE A).2];exact d,λh=>absurd h hE⟩
theorem X0.of{I':Nat}(h:J3 l I=.ok (c,n) I'):X0 l I 0 A c n I' 0 A:=by
 refine⟨by rw[(F9 h 0 A).1],by rw[(F9 h 0 A).2],λ_ c0 n0 k a=>?_⟩;rw[h]at a;cases a;exact⟨rfl,rfl,rfl⟩
theorem X0.bad{l:List UInt8}{I:Nat}{A:Int}{e p:Nat}(c:Rat)(n I':Nat)(h:J3 l I=.bad e p):X0 l I 0 A c n I' e p:=by
 exact⟨by rw[h];rfl,by rw[h];rfl,λ_ c0 n0 k a=>by rw[h]at a;cases a⟩
theorem dO(h:GT l I E A c b g i)(d:(decide (g=0)&&JY l (DT l b) 120)=false):X0 l I E A c 0 (DT l b) g i:=by
 by_cases a:g=0
 . obtain⟨rfl,rfl,e⟩:=h.zero a;subst a;simp at d;refine X0.of ?_;rw[Ir,e];simp[d]
 . exact h.set a _ _
theorem dP(h:GT l I E A c b g i)(a:(decide (g=0)&&JY l (DT l b) 120)=true)(e:(decide (g=0)&&JY l (DT l (DT l b+1)) 94)=false):X0 l I E A c 1 (DT l (DT l b+1)) g i:=by
 rw[AP,BR]at a;obtain⟨d,a⟩:=a;obtain⟨rfl,rfl,f⟩:=h.zero d;subst d;simp at e;refine X0.of ?_;rw[Ir,f];simp[a,ER,e]
theorem dQ(h:GT l I E A c b g i)(m:(decide (g=0)&&JY l (DT l b) 120)=true)(o:(decide (g=0)&&JY l (DT l (DT l b+1)) 94)=true)(hp:DT l (DT l (DT l b+1)+1)=p)(D:Ed l p=p+d)(K:YZ l p d n)(j r:Int)
(s:j=EP (J8 l (DT l (DT l b+1)+1)) g)(hA5:r=Eh (J8 l (DT l (DT l b+1)+1)) g i):(8<n->X0 l I E A c 0 (p+d) (if j=0 then 3 else j) (if j=0 then(p:Int)else r))/\(¬8<n->X0 l I E A c n (p+d) j r):=by
 rw[AP,BR]at m o;obtain⟨w,m⟩:=m;obtain⟨_,o⟩:=o;obtain⟨rfl,rfl,u⟩:=h.zero w;subst w;cases f:J8 l (DT l (DT l b+1)+1)with
 |bad e q=>
  rw[f]at s hA5;have M:=Kq _ _ _ _ f;have z:j=(e:Int):=s;have y:r=(q:Int):=hA5;have v:¬j=0:=O
  have x:J3 l I=.bad e q:=by rw[Ir,u];simp[m,ER,o,f]
  rw[BC v,BC v,z,y];exact⟨λ_=>X0.bad _ _ _ x,λ_=>X0.bad _ _ _ x⟩
 |ok a k=>
  obtain⟨L,N⟩:=a;obtain⟨rfl,rfl,rfl⟩:=K.of_ok hp D f;rw[f,(F9 rfl 0 0).1]at s;rw[f,(F9 rfl 0 _).2]at hA5;subst s hA5;rw[BG rfl,BG rfl];refine⟨λt=>X0.bad _ _ _ ?_,λt=>X0.of ?_⟩
  . rw[Ir,u];simp[m,ER,o,f,t]
  . rw[Ir,u];simp[m,ER,o,f,t]
theorem GR.new{w e:G}{R:Nat}{s:ByteArray}{I E A:Int}{c:Rat}(h:DX w R s I E A)(i:Bl w e){a:Option Addr}{l ca:Nat}{f:Bool}{b:Option Addr}{k d:Nat}{t:Bool}(j:Js e (.agg #[C a l ca,F f,C b k d,F t]) c):
 GR w (e.alloc (.cells #[C a l ca,F f,C b k d,F t] 85)) R e.heap.size s I E A c:=by
 have g:Bl e (e.alloc (.cells #[C a l ca,F f,C b k d,F t] 85)):=Ba e _;exact⟨(h.below i).below g,⟨a,l,ca,f,b,k,d,t,JS.new _ _ _ _ _ _,j.below g⟩,Ji (Yb i _) (Yb g _),i.size⟩
theorem dR(R:Nat)(s:ByteArray)(I:Nat)(E A:Int)(w:G)(h:DX w R s I E A)(hI:I<=s.size)(hs:s.size<=300):
 Calls Tryz.prog 62 #[.pointer (some ⟨R,0,none⟩)] w λr w'=>∃(u:Value) (c:Rat) (n I':Nat),r=.returned u/\RowK false w' u (Jc (Dn n [c]))/\n<=8/\GG c/\I'<=s.size/\DX w' R s (I':Int) (EP (J3 (Jf s) I) E) (Eh (J3 (Jf s) I) E A)/\(E=0->∀c0 n0 k,J3 (Jf s) I=.ok (c0,n0) k->c=c0/\n=n0/\I'=k)/\w.grownBy w' (some R):=by
 have Uk:I<=(Jf s).length:=by rw[Jj];exact hI
 obtain⟨b1,bj⟩:=ex ((decide (E=0)&&JY (Jf s) (DT (Jf s) I) 120));have Ud:=J bj;obtain⟨j,an⟩:=ex (DT (Jf s) I);have Qu:=J an;have Uh:j<=s.size:=by rw[<-an,<-Jj];exact YK Uk
 have HW:=J (KT 1 O O w);have Uq:=J λ(V:G) (f:DX V R s I E A)=>YX R s I E A 120 V f hI hs;rw[bj,an]at Uq;have HH:=J h;have Wg:=J Uk;clear h bj an Uk hI;go_enter Tryz.func62,Tryz.ntmps62
 go_upto_region 2 with(first
  |(go_at_call 42;refine HW.o.mono ?_;clear HW;rintro e w1 ⟨u1,rfl,ci,di⟩;obtain⟨et,fd,f6,fe,ew,fb,f7,ff,rfl⟩:=Js.form ci))
 have hT:=GR.new HH.o di ci;obtain⟨W0,bi⟩:=ex (w1.alloc (.cells #[C et fd f6,F fe,C ew fb f7,F ff] 85));rw[bi]at hT;rw[bi];obtain⟨B,hB⟩:=ex (w1.heap.size);rw[hB]at hT;rw[hB];have HT:=J (show GR w W0 R B s I E A 1 from hT);clear hT ci di bi hB;go_upto_if 15 with(first
  |(go_at_call 65;refine(Uq.o _ HT.o.1).mono ?_;clear Uq;rintro e w2 ⟨rfl,dj,dh⟩;have Qy:=J (HT.o.rd dj dh);clear dj dh HT))
 go_cut [4] λv w'=>v=F b1/\∃(c:Rat) (M:Nat) (d g:Int),Hid (GR w w' R B s (M:Int) d g c/\GT (Jf s) I E A c M d g)
 case first=>
  cases b1 with
  |true=>
   go_wp2_with fail
   go_meet
   case rel=>exact⟨rfl,1,j,E,A,J ⟨Qy.o,by rw[<-Qu.o];exact dL Wg.o Ud.o⟩⟩
  |false=>
   obtain⟨d,bc⟩:=ex (EP (J8 (Jf s) I) E);obtain⟨g,hA1⟩:=ex (Eh (J8 (Jf s) I) E A);have HN:=J λ(V:G) (f:DX V R s j E A)=>O0 R s j E A j V f Uh hs (by rw[<-Qu.o];exact KW _ _);have Uw:J8 (Jf s) j=J8 (Jf s) I:=by rw[<-Qu.o];exact Sg _ _
   rw[Uw,bc,hA1]at HN;have Ua:=J bc;have Ut:=J hA1;clear bc hA1 Uw;go_upto_if 22 with(first
    |(go_at_call 102;refine(HN.o _ Qy.o.1).mono ?_;clear HN;rintro e w3 ⟨d1,n1,rfl,co,aw,ai,ad⟩;have Q:=J (Qy.o.rd ai ad);clear ai ad Qy;have Ux:=J co;have Uv:=J aw;have Uf:=aw.lt12;have f9:j+d1<=s.size:=(by rw[<-Jj];exact aw.1);clear co aw;obtain⟨b2,bk⟩:∃b,b=(decide (d=0)&&JY (Jf s) (DT (Jf s) (j+d1)) 47):=⟨_,rfl⟩;have Ul:=J bk;have Uo:=J λ(V:G) (f:DX V R s ((j+d1:Nat):Int) d g)=>Yf R s (j+d1) d g 47 V f f9 hs b2 bk;clear bk;obtain⟨I2,bh⟩:=ex (DT (Jf s) (j+d1));rw[bh]at Uo;have Qp:=J bh;clear bh)
    |(go_at_call 61;refine(Uo.o _ Q.o.1).mono ?_;clear Uo;rintro e w4 ⟨rfl,aj,ae⟩;have L:=J (Q.o.rd aj ae);clear aj ae Q))
   have Qn:=J λ(V:G)=>IF (n1:Int) O O V;have Ui:=J (DY.word Uf);cases b2 with
   |false=>
    obtain⟨P,Qz,HY⟩:=Di (λ(V:G)=>IF 1 O O V) DY.one (show(1:Int)≠0 by omega);go_wp2_with(first
     |(go_at_call 79;refine(Qn.o _).mono ?_;clear Qn;rintro e w6 ⟨dz,rfl,W,T⟩;have Qw:=J (L.o.below T);clear T;have Qo:=J W;clear W)
     |(go_at_call 79;refine(P.o _).mono ?_;clear P;rintro e w7 ⟨ed,rfl,X,p⟩;have Qv:=J (Qw.o.below p);have Qb:=J (Qo.o.below p);clear p;have Qs:=J X;clear X)
     |(go_at_call 80;refine(Ko _ _ _ _ _ Qb.o Qs.o HY.o Ui.o Qz.o).mono ?_;rintro e w8 ⟨ei,rfl,t,U⟩;have N:=Qv.o.below U;clear U;obtain⟨cj,dt,cl,du,ck,dp,cn,dx,rfl⟩:=Js.form t;have Qt:=J (N.put t);obtain⟨_,⟨x0,x1,x2,x3,x4,x5,x6,x7,a,_⟩,_,_⟩:=N;obtain⟨e0,e1,e2,e3⟩:=a.cq;obtain⟨g0,g1,g2,g3⟩:=a.fq;clear a t))
    go_meet
    case rel=>exact⟨rfl,_,_,_,_,J ⟨Qt.o,by have:=dM (A:=A) Ud.o Qu.o Ux.o Uv.o (by rw[Ua.o];exact Ul.o.symm);rw[Qp.o,Ua.o,Ut.o]at this;exact this⟩⟩
   |true=>
    have Um:I2+1<=s.size:=by
     have S:=Ul.o.symm;rw[AP]at S;have h6:=J2 S.2;rw[Qp.o,Jj]at h6;omega
    obtain⟨p2,bu⟩:=ex (DT (Jf s) (I2+1));have Qr:=J λ(V:G) (f:DX V R s ((I2+1:Nat):Int) d g)=>O0 R s (I2+1) d g p2 V f Um hs bu;have Wd:=J bu;clear bu;obtain⟨E2,bf⟩:=ex (EP (J8 (Jf s) (I2+1)) d);obtain⟨A2,hA2⟩:=ex (Eh (J8 (Jf s) (I2+1)) d g);rw[bf,hA2]at Qr;have Wb:=J bf;have We:=J hA2;clear bf hA2;go_upto_if 29 with(first
     |(go_at_call 102;refine(Qr.o _ L.o.1).mono ?_;clear Qr;rintro e w5 ⟨d2,n2,rfl,ct,bt,ak,af⟩;have K:=J (L.o.rd ak af);clear ak af L;have Uy:=J ct;have Qr:=J bt;have Ue:=bt.lt12;clear ct bt))
    have Qq:=J (dN (A:=A) Ud.o Qu.o Ux.o Uv.o (by rw[Ua.o];exact Ul.o.symm) (by rw[Qp.o];exact Wd.o) Uy.o Qr.o E2 A2 (by rw[Qp.o,Ua.o];exact Wb.o.symm) (by rw[Qp.o,Ua.o,Ut.o];exact We.o.symm));by_cases ay:n2=0
    . have Wh:((n2:Int)==0)=true:=by rw[ay];rfl
      have Up:=J ay;clear ay;obtain⟨HF,P,Qz,HY⟩:=D9 (λ(V:G) (f:DX V R s ((p2+d2:Nat):Int) E2 A2)=>KV R s ((p2+d2:Nat):Int) E2 A2 4 (p2:Int) V f) (λ(V:G)=>IF 1 O O V) DY.one (show(1:Int)≠0 by omega);go_wp2_with(first
       |(go_at_call 66;refine(HF.o _ K.o.1).mono ?_;clear HF;rintro e fg ⟨rfl,am,ah⟩;have Qi:=J (K.o.rd am ah);clear am ah K)
       |(go_at_call 79;refine(Qn.o _).mono ?_;clear Qn;rintro e w6 ⟨dz,rfl,W,T⟩;have Qw:=J (Qi.o.below T);clear T;have Qo:=J W;clear W)
       |(go_at_call 79;refine(P.o _).mono ?_;clear P;rintro e w7 ⟨ed,rfl,X,p⟩;have Qv:=J (Qw.o.below p);have Qb:=J (Qo.o.below p);clear p;have Qs:=J X;clear X)
       |(go_at_call 80;refine(Ko _ _ _ _ _ Qb.o Qs.o HY.o Ui.o Qz.o).mono ?_;rintro e w8 ⟨ei,rfl,t,U⟩;have N:=Qv.o.below U;clear U;obtain⟨cj,dt,cl,du,ck,dp,cn,dx,rfl⟩:=Js.form t;have Qt:=J (N.put t);obtain⟨_,⟨x0,x1,x2,x3,x4,x5,x6,x7,a,_⟩,_,_⟩:=N;obtain⟨e0,e1,e2,e3⟩:=a.cq;obtain⟨g0,g1,g2,g3⟩:=a.fq;clear a t))
      go_meet
      case rel=>exact⟨rfl,_,_,_,_,J ⟨Qt.o,Qq.o.1 Up.o⟩⟩
    . have Wh:((n2:Int)==0)=false:=by rw[BH];omega
      obtain⟨P,Qz,HY⟩:=Di (λ(V:G)=>IF (n2:Int) O O V) (DY.word Ue) (show(n2:Int)≠0 by omega);go_wp2_with(first
       |(go_at_call 79;refine(Qn.o _).mono ?_;clear Qn;rintro e w6 ⟨dz,rfl,W,T⟩;have Qw:=J (K.o.below T);clear T;have Qo:=J W;clear W)
       |(go_at_call 79;refine(P.o _).mono ?_;clear P;rintro e w7 ⟨ed,rfl,X,p⟩;have Qv:=J (Qw.o.below p);have Qb:=J (Qo.o.below p);clear p;have Qs:=J X;clear X)
       |(go_at_call 80;refine(Ko _ _ _ _ _ Qb.o Qs.o HY.o Ui.o Qz.o).mono ?_;rintro e w8 ⟨ei,rfl,t,U⟩;have N:=Qv.o.below U;clear U;obtain⟨cj,dt,cl,du,ck,dp,cn,dx,rfl⟩:=Js.form t;have Qt:=J (N.put t);obtain⟨_,⟨x0,x1,x2,x3,x4,x5,x6,x7,a,_⟩,_,_⟩:=N;obtain⟨e0,e1,e2,e3⟩:=a.cq;obtain⟨g0,g1,g2,g3⟩:=a.fq;clear a t))
      go_meet
      case rel=>exact⟨rfl,_,_,_,_,J ⟨Qt.o,Qq.o.2 ay⟩⟩
 case rest=>
  obtain⟨rfl,c,M,d,g,z⟩:=hcut;have Us:M<=s.size:=by have:=z.o.2.2.2.2.1;rwa[Jj]at this
  obtain⟨b3,bm⟩:∃b,b=(decide (d=0)&&JY (Jf s) (DT (Jf s) M) 120):=⟨_,rfl⟩;have Uc:=J bm.symm;obtain⟨I3,ap⟩:=ex (DT (Jf s) M);have HX:=J λ(V:G) (f:DX V R s (M:Int) d g)=>Yf R s M d g 120 V f Us hs b3 bm;rw[ap]at HX;have Ug:I3<=s.size:=by rw[<-ap,<-Jj];exact YK (by rw[Jj];exact Us)
  have D:=J ap;clear ap bm Qy Ud;go_upto_if 40 with(first
   |(go_at_call 61;refine(HX.o _ z.o.1.1).mono ?_;clear HX;rintro e w3 ⟨rfl,ai,ad⟩;have Q:=J (z.o.1.rd ai ad);clear ai ad))
  cases b3 with
  |false=>
   obtain⟨_,⟨y0,y1,y2,y3,y4,y5,y6,y7,a,y⟩,_,_⟩:=Q.o;obtain⟨e0,e1,e2,e3⟩:=a.cq;have l:=J (Le _ 0 c _ y O);clear a y;go_wp2_with(first
    |(go_at_call 78;refine l.o.mono ?_;clear l;rintro e w9 ⟨u9,rfl,x,q⟩;have m:=J (Q.o.below q);clear q;have o:=J x;clear x;obtain⟨a7,l7,c7,rfl⟩:=o.o.form))
   go_ret;have i:=dO z.o.2 Uc.o;refine⟨_,c,0,_,rfl,o.o,O,z.o.2.2.2.1,by rw[D.o];exact Ug,?_,i.2.2,m.o.2.2.1⟩;rw[<-i.1,<-i.2.1];rw[D.o];exact m.o.1
  |true=>
   have Ub:I3+1<=s.size:=by
    have S:=Uc.o;rw[AP]at S;have h6:=J2 S.2;rw[D.o,Jj]at h6;omega
   obtain⟨b4,bn⟩:∃b,b=(decide (d=0)&&JY (Jf s) (DT (Jf s) (I3+1)) 94):=⟨_,rfl⟩;have Un:=J bn.symm;obtain⟨I4,aq⟩:=ex (DT (Jf s) (I3+1));have HX:=J λ(V:G) (f:DX V R s ((I3+1:Nat):Int) d g)=>Yf R s (I3+1) d g 94 V f Ub hs b4 bn;rw[aq]at HX;have Uj:I4<=s.size:=by rw[<-aq,<-Jj];exact YK (by rw[Jj];exact Ub)
   have Qm:=J aq;clear aq bn;go_upto_if 45 with(first
    |(go_at_call 61;refine(HX.o _ Q.o.1).mono ?_;clear HX;rintro e w4 ⟨rfl,aj,ae⟩;have L:=J (Q.o.rd aj ae);clear aj ae))
   cases b4 with
   |false=>
    obtain⟨_,⟨y0,y1,y2,y3,y4,y5,y6,y7,a,y⟩,_,_⟩:=L.o;obtain⟨e0,e1,e2,e3⟩:=a.cq;have l:=J (Le _ 1 c _ y O);clear a y;go_wp2_with(first
     |(go_at_call 78;refine l.o.mono ?_;clear l;rintro e w9 ⟨u9,rfl,x,q⟩;have m:=J (L.o.below q);clear q;have o:=J x;clear x;obtain⟨a7,l7,c7,rfl⟩:=o.o.form))
    go_ret;have i:=dP z.o.2 Uc.o (by rw[D.o];exact Un.o);refine⟨_,c,1,_,rfl,o.o,O,z.o.2.2.2.1,by rw[D.o,Qm.o];exact Uj,?_,i.2.2,m.o.2.2.1⟩;rw[<-i.1,<-i.2.1];rw[D.o,Qm.o];exact m.o.1
   |true=>
    have Ur:I4+1<=s.size:=by
     have S:=Un.o;rw[AP]at S;have h6:=J2 S.2;rw[Qm.o,Jj]at h6;omega
    obtain⟨p5,ce⟩:=ex (DT (Jf s) (I4+1));have Qx:=J λ(V:G) (f:DX V R s ((I4+1:Nat):Int) d g)=>O0 R s (I4+1) d g p5 V f Ur hs ce;have Wi:=J ce;clear ce;obtain⟨E5,bg⟩:=ex (EP (J8 (Jf s) (I4+1)) d);obtain⟨A5,hA5⟩:=ex (Eh (J8 (Jf s) (I4+1)) d g);rw[bg,hA5]at Qx;have Wa:=J bg;have Wc:=J hA5;clear bg hA5;go_upto_if 54 with(first
     |(go_at_call 102;refine(Qx.o _ L.o.1).mono ?_;clear Qx;rintro e w5 ⟨d5,n5,rfl,de,az,ak,af⟩;have K:=J (L.o.rd ak af);clear ak af L;have Uz:=J de;have Qx:=J az;have fh:=az.lt12;have Uu:p5+d5<=s.size:=(by rw[<-Jj];exact az.1);clear de az))
    have Qq:=J (dQ z.o.2 Uc.o (by rw[D.o];exact Un.o) (by rw[D.o,Qm.o];exact Wi.o) Uz.o Qx.o E5 A5 (by rw[D.o,Qm.o];exact Wa.o.symm) (by rw[D.o,Qm.o];exact Wc.o.symm));by_cases h8:8<n5
    . have f8:(8:Int)<(n5:Int):=O
      have HF:=J λ(V:G) (f:DX V R s ((p5+d5:Nat):Int) E5 A5)=>KV R s ((p5+d5:Nat):Int) E5 A5 3 (p5:Int) V f;go_upto_region 21 with(first
       |(go_at_call 66;refine(HF.o _ K.o.1).mono ?_;clear HF;rintro e fg ⟨rfl,am,ah⟩;have Qi:=J (K.o.rd am ah);clear am ah K))
      obtain⟨_,⟨y0,y1,y2,y3,y4,y5,y6,y7,a,y⟩,_,_⟩:=Qi.o;obtain⟨e0,e1,e2,e3⟩:=a.cq;have l:=J (Le _ 0 c _ y O);clear a y;go_wp2_with(first
       |(go_at_call 78;refine l.o.mono ?_;clear l;rintro e w9 ⟨u9,rfl,x,q⟩;have m:=J (Qi.o.below q);clear q;have o:=J x;clear x;obtain⟨a7,l7,c7,rfl⟩:=o.o.form))
      go_ret;have i:=Qq.o.1 h8;refine⟨_,c,0,p5+d5,rfl,o.o,O,z.o.2.2.2.1,Uu,?_,i.2.2,m.o.2.2.1⟩;rw[<-i.1,<-i.2.1];exact m.o.1
    . have f8:¬(8:Int)<(n5:Int):=O
      obtain⟨_,⟨y0,y1,y2,y3,y4,y5,y6,y7,a,y⟩,_,_⟩:=K.o;obtain⟨e0,e1,e2,e3⟩:=a.cq;have l:=J (Le _ n5 c _ y O);clear a y;go_wp2_with(first
       |(go_at_call 78;refine l.o.mono ?_;clear l;rintro e w9 ⟨u9,rfl,x,q⟩;have m:=J (K.o.below q);clear q;have o:=J x;clear x;obtain⟨a7,l7,c7,rfl⟩:=o.o.form))
      go_ret;have i:=Qq.o.2 h8;refine⟨_,c,n5,p5+d5,rfl,o.o,O,z.o.2.2.2.1,Uu,?_,i.2.2,m.o.2.2.1⟩;rw[<-i.1,<-i.2.1];exact m.o.1

