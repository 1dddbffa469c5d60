import Derived.Test.YteldjhhjnchdeaaGreatDoorT32
open Go.Value renaming slice->C,bool->F,int->B
open Go renaming World->G
open Go.IntKind renaming i64->H
set_option maxRecDepth 100000
set_option maxHeartbeats 16000000
namespace Go.Proofs.YteldjhhjnchdeaaGreatDoor
open Go.RowKit Go.Shelf
section
attribute [local go_sem] Oper.semAt_some
theorem Bu:type_of% @Obj.cells.injEq:=@Obj.cells.injEq
def Gm(r:Bool)(W0:G)(V:G)(o:Value)(qs:List Rat):Prop:=El r W0.heap.size V o qs/\Bl W0 V
theorem Gm.below{r:Bool}{W0 V V':G}{o:Value}{qs:List Rat}(h:Gm r W0 V o qs)(a:Bl V V'):Gm r W0 V' o qs:=⟨h.1.below a,Bt h.2 a⟩
theorem Rf(va vq:Value)(ps:List Rat)(q:Rat)(w:G)(ha:RowK false w va ps)(hq:Js w vq q)(ap:Db ps)(ai:Sq q)(am:ps.length<1099511627776):
 Calls Tryz.prog 76 #[va,vq] w λe w'=>∃u,e=.returned u/\RowK false w' u (Jd (YH q ps))/\Bl w w':=by
 have Qo:Tryz.prog.follows .mixedOrders=true:=by kernel_rfl
 obtain⟨a,la,ca,rfl⟩:=ha.form;obtain⟨a8,l8,c8,s8,b8,X,d8,t8,rfl⟩:=Js.form hq;obtain⟨ak,ay,az,bi,s,t,aa,bb,ll,cc,kk,dd,hc⟩:=ha.formsF;have b0:=JK.new w 85 (C a8 l8 c8) (F s8) (C b8 X d8) (F t8);have Qf:Bl w (w.alloc (.cells #[C a8 l8 c8,F s8,C b8 X d8,F t8] 85)):=Ba w _;obtain⟨W0,ad⟩:=ex (w.alloc (.cells #[C a8 l8 c8,F s8,C b8 X d8,F t8] 85));rw[ad]at Qf b0;obtain⟨Qn,HA,HQ,HP,Qi,Qh,Qd,Qp⟩:=Gy ad hc (hq.below Qf) ap ai ak Qf b0;have Qk:=Ja am;clear ha hq ap ai ak ay az hc ad am b0 Qf;go_enter Tryz.func76,Tryz.ntmps76
 go_upto_region 1 with fail
 rw[Qn.o];go_wp2;go_loopw [5,6] (λo i wr=>∃k:Nat,k<=la/\i=B H (k:Int)/\(∃L I,o=C L k I)/\Hid (Gm false W0 wr o (X9 (λi=>cf ps i*q) k))) (λ_ i _=>la-(intOf i).toNat)
 case atStart=>exact⟨0,AK _,rfl,⟨_,_,rfl⟩,Ja ⟨El.nil _ _ _,BB _ _⟩⟩
 case round=>
  obtain⟨k,hk,rfl,⟨L,I,rfl⟩,HR⟩:=hrel;by_cases bg:k<la
  . have bk:(k:Int)<(la:Int):=om
    obtain⟨J,b,rfl,P,c0,c1,c2,c3⟩:=HA.o k bg;have Qm:=Ja (show ∀V,Bl W0 V->(V.cell? ⟨b,k*4,none⟩=some (C (aa k) (ll k) (cc k))/\V.cell? ⟨b,k*4+1,none⟩=some (F (s k))/\V.cell? ⟨b,k*4+2,none⟩=some (C (bb k) (kk k) (dd k))/\V.cell? ⟨b,k*4+3,none⟩=some (F (t k)))/\Js V (.agg #[C (aa k) (ll k) (cc k),F (s k),C (bb k) (kk k) (dd k),F (t k)]) (cf ps k)from λV h=>by
     have O:=Bt Qd.o h;exact⟨⟨(O.cell (p:=⟨b,_,none⟩) P).trans c0,(O.cell (p:=⟨b,_,none⟩) P).trans c1,(O.cell (p:=⟨b,_,none⟩) P).trans c2,(O.cell (p:=⟨b,_,none⟩) P).trans c3⟩,J.below O⟩)
    have HK:=Ja (show k+1<=1099511627776 by have:=Qk.o;have:=Qh.o;omega);clear J c0 c1 c2 c3 P;go_wp2_with fail
    have Qj:=HR.o.below ((BB _ wr).drew);refine Jk Qo [[],[],[],[1,2],[3],[],[4,5],[6],[0,7,6],[8,8,0,1,2,3,4,5,6,7,8]] (by kernel_rfl) DS
     (λD af V=>∃(ta tb U td Y tf Z T N S:Value),af={ tmps:=#[C (some ⟨b,0,none⟩) la ca,.agg #[C a8 l8 c8,F s8,C b8 X d8,F t8],undef,.pointer (some ⟨w.heap.size,0,none⟩),C none 0 0,S,B H ↑k,B H ↑k,C (some ⟨b,0,none⟩) la ca,B H ↑la,F true,u11,u12,ta,tb,U,td,Y,tf,Z,T,N,undef,undef],defers:=[] }/\Hid ((D 0=true->ta=C L k I)/\(D 1=true->tb=C (some ⟨b,0,none⟩) la ca)/\(D 2=true->U=B H (k:Int))/\(D 3=true->td=.pointer (some ⟨b,k*4,none⟩))/\(D 4=true->D 8=false->Js V Y (cf ps k))/\(D 5=true->D 8=false->Js V tf q)/\(D 6=true->D 8=false->Js V Z (cf ps k*q))/\(D 7=true->∃a l c,T=C a l c)/\(D 8=true->∃a l c,N=C a l c)/\((D 9=false->S=Value.slice L k I)/\(D 9=true->S=N)))/\Hid ((D 7=false->Gm false W0 V (C L k I) (X9 (λi=>cf ps i*q) k))/\(D 7=true->D 8=false->∃(M:G) (x y z u:Value),V=M.alloc (.cells #[x,y,z,u] (EK false))/\(Gm false W0 M (C L k I) (X9 (λi=>cf ps i*q) k))/\EQ false M (.agg #[x,y,z,u]) (cf ps k*q)/\T=C (some ⟨M.heap.size,0,none⟩) 1 1)/\(D 8=true->Gm false W0 V N (X9 (λi=>cf ps i*q) k++[cf ps k*q]))))
     (E8 ⟨_,_,rfl,Ja ⟨DQ,DQ,DQ,DQ,DQ,DQ,DQ,DQ,DQ,⟨λ_=>rfl,DQ⟩⟩,Ja ⟨λ_=>Qj,DQ,DQ⟩⟩) ?step1 ?fin1
    case step1=>
     rintro D af V i ds f J m n ⟨ta,tb,U,td,Y,tf,Z,T,N,S,rfl,d,A⟩;have bj:i<10:=(Ac.1 J).1;obtain rfl|rfl|rfl|rfl|rfl|rfl|rfl|rfl|rfl|rfl:=IM i om
     all_goals
      simp only[Af,Ae,Ag]at J;subst J
     . have v:D 8=false:=DU f n;have W:D 9=false:=DU f n;obtain rfl:=EU d W;clear m;refine DW ?_;exact⟨(Gg (Dh d) ⟨λ_=>rfl,λh=>by simp[W]at h⟩),Ja ⟨λh=>A.o.1 (by simpa using h),λh E=>A.o.2.1 (by simpa using h) (by simpa using E),λh=>A.o.2.2 (by simpa using h)⟩⟩
     . have v:D 8=false:=DU f (DU (a:=7) f (DU (a:=6) f (DU (a:=4) f (DU (a:=3) f n))));have r:D 7=false:=DU f (DU (a:=6) f (DU (a:=4) f (DU (a:=3) f n)));have g:=A.o.1 r;clear m;refine DW ?_;exact⟨Ja ⟨d.o.1,λ_=>rfl,d.o.2.2.1,d.o.2.2.2.1,d.o.2.2.2.2.1,(Ds d),(Dy d),(D9 d),(EF d),⟨λh=>(EU d) (by simpa using h),λh=>d.o.2.2.2.2.2.2.2.2.2.2 (by simpa using h)⟩⟩,Ja ⟨λ_=>g,λh=>by simp[r]at h,λh=>by simp[v]at h⟩⟩
     . have v:D 8=false:=DU f (DU (a:=7) f (DU (a:=6) f (DU (a:=4) f (DU (a:=3) f n))));have r:D 7=false:=DU f (DU (a:=6) f (DU (a:=4) f (DU (a:=3) f n)));have g:=A.o.1 r;clear m;refine DW ?_;exact⟨Ja ⟨d.o.1,d.o.2.1,λ_=>rfl,d.o.2.2.2.1,d.o.2.2.2.2.1,(Ds d),(Dy d),(D9 d),(EF d),⟨λh=>(EU d) (by simpa using h),λh=>d.o.2.2.2.2.2.2.2.2.2.2 (by simpa using h)⟩⟩,Ja ⟨λ_=>g,λh=>by simp[r]at h,λh=>by simp[v]at h⟩⟩
     . have v:D 8=false:=DU f (DU (a:=7) f (DU (a:=6) f (DU (a:=4) f n)));have r:D 7=false:=DU f (DU (a:=6) f (DU (a:=4) f n));have g:=A.o.1 r;obtain rfl:=d.o.2.1 (m 1 DQ);obtain rfl:=d.o.2.2.1 (m 2 DQ);clear m;refine DW ?_;exact⟨Ja ⟨d.o.1,λ_=>rfl,λ_=>rfl,λ_=>rfl,d.o.2.2.2.2.1,(Ds d),(Dy d),(D9 d),(EF d),⟨λh=>(EU d) (by simpa using h),λh=>d.o.2.2.2.2.2.2.2.2.2.2 (by simpa using h)⟩⟩,Ja ⟨λ_=>g,λh=>by simp[r]at h,λh=>by simp[v]at h⟩⟩
     . have v:D 8=false:=DU f (DU (a:=7) f (DU (a:=6) f n));have r:D 7=false:=DU f (DU (a:=6) f n);have g:=A.o.1 r;obtain rfl:=d.o.2.2.2.1 (m 3 DQ);obtain⟨⟨e0,e1,e2,e3⟩,hr⟩:=Qm.o V g.2;clear m;refine DW ?_;exact⟨Ja ⟨d.o.1,d.o.2.1,d.o.2.2.1,λ_=>rfl,λ_ _=>hr,(Ds d),(Dy d),(D9 d),(EF d),⟨λh=>(EU d) (by simpa using h),λh=>d.o.2.2.2.2.2.2.2.2.2.2 (by simpa using h)⟩⟩,Ja ⟨λ_=>g,λh=>by simp[r]at h,λh=>by simp[v]at h⟩⟩
     . have v:D 8=false:=DU f (DU (a:=7) f (DU (a:=6) f n));have r:D 7=false:=DU f (DU (a:=6) f n);have g:=A.o.1 r;have n0:=Qp.o.below g.2;obtain⟨e0,e1,e2,e3⟩:=n0.cq;clear m;refine DW ?_;exact⟨Ja ⟨d.o.1,d.o.2.1,d.o.2.2.1,d.o.2.2.2.1,d.o.2.2.2.2.1,λ_ _=>HQ.o.below g.2,(Dy d),(D9 d),(EF d),⟨λh=>(EU d) (by simpa using h),λh=>d.o.2.2.2.2.2.2.2.2.2.2 (by simpa using h)⟩⟩,Ja ⟨λ_=>g,λh=>by simp[r]at h,λh=>by simp[v]at h⟩⟩
     . have v:D 8=false:=DU f n;have r:D 7=false:=DU f n;have g:=A.o.1 r;have Q:=d.o.2.2.2.2.1 (m 4 DQ) v;have h1:=Ds d (m 5 DQ) v;clear m;have HC:=Ja (RZ _ _ (cf ps k) q V Q h1 (HP.o.at k) Qi.o);clear Q h1;refine Jb rfl rfl λK hK=>?_;go_simp;go_wp2_with(go_at_call 44;refine HC.o.mono ?_;rintro e w5 ⟨v5,rfl,bf,R⟩)
       exact E8 ⟨_,_,rfl,Ja ⟨d.o.1,d.o.2.1,d.o.2.2.1,d.o.2.2.2.1,λh E=>(d.o.2.2.2.2.1 h E).below R,λh E=>((Ds d) h E).below R,λ_ _=>bf,(D9 d),(EF d),⟨λh=>(EU d) (by simpa using h),λh=>d.o.2.2.2.2.2.2.2.2.2.2 (by simpa using h)⟩⟩,Ja ⟨λ_=>g.below R,λh=>by simp[r]at h,λh=>by simp[v]at h⟩⟩
     . have v:D 8=false:=DU f n;have g:=A.o.1 n;have Q:=Dy d (m 6 DQ) v;obtain⟨a9,l9,c9,s9,b9,k9,d9,t9,rfl⟩:=Js.form Q;clear m;refine DW ?_;exact⟨Ja ⟨d.o.1,d.o.2.1,d.o.2.2.1,d.o.2.2.2.1,λh E=>(d.o.2.2.2.2.1 h E).below (Ba V _),λh E=>((Ds d) h E).below (Ba V _),λh E=>((Dy d) h E).below (Ba V _),λ_=>⟨_,_,_,rfl⟩,(EF d),⟨λh=>(EU d) (by simpa using h),λh=>d.o.2.2.2.2.2.2.2.2.2.2 (by simpa using h)⟩⟩,Ja ⟨λh=>by simp at h,λ_ _=>⟨V,_,_,_,_,rfl,g,Q,rfl⟩,λh=>by simp[v]at h⟩⟩
     . obtain⟨M,x9,y9,z9,u9,rfl,g,bc,aq⟩:=A.o.2.1 (m 7 DQ) n;obtain rfl:=d.o.1 (m 0 DQ);have W:D 9=false:=DU f n;have Qg:=m 7 DQ;obtain⟨v5,w5,aj,an,bh,R⟩:=KB false W0.heap.size M _ _ g.1 bc (by rw[JP];exact HK.o) g.2.size;dsimp only[GN,EK]at aj;subst aq;obtain⟨a6,c6,e6,_⟩:=an.form;subst e6;clear m;refine Jb rfl rfl λK hK=>?_;refine Lib.wp_append_run _ _ _ 30 30 rfl _ _ rfl rfl _ _ aj (hK _ _ ?_);exact E8 ⟨_,_,rfl,Ja ⟨λ_=>rfl,d.o.2.1,d.o.2.2.1,d.o.2.2.2.1,λ_ h=>by simp at h,λ_ h=>by simp at h,λ_ h=>by simp at h,(D9 d),λ_=>⟨_,_,_,rfl⟩,⟨λh=>(EU d) (by simpa using h),λh=>by simp[W]at h⟩⟩,Ja ⟨λh=>by simp[Qg]at h,λ_ h=>by simp at h,λ_=>⟨an,R _ _ (Aa _) g.2⟩⟩⟩
     . clear m;refine DW ?_;exact⟨(Gg d ⟨λh=>by simp at h,λ_=>rfl⟩),Ja ⟨λh=>A.o.1 (by simpa using h),λh E=>A.o.2.1 (by simpa using h) (by simpa using E),λh=>A.o.2.2 (by simpa using h)⟩⟩
    case fin1=>
     rintro D af V ae ⟨ta,tb,U,td,Y,tf,Z,T,N,S,rfl,d,A⟩;have HO:=Ja (A.o.2.2 (ae 8 DS));obtain rfl:=d.o.2.2.2.2.2.2.2.2.2.2 (ae 9 DS);clear d A ae;obtain⟨a9,c9,e9,_⟩:=HO.o.1.form;rw[<-Xj,JP]at e9;subst e9;go_wp2_with fail
     go_roundw
     case rel=>exact⟨k+1,om,by go_num,⟨a9,c9,rfl⟩,Ja (by rw[Xj];exact HO.o)⟩
     case measure=>simp[intOf];omega
  . have Ql:k=la:=om
    subst Ql;have HT:=Ja (K3 _ _ wr (HR.o.1.row (by rw[JP];omega)));have HE:=Ja (show Jd (X9 (λi=>cf ps i*q) k)=Jd (YH q ps)from YM λj=>by
     rw[MP,Y5];split
     . rfl
     . rw[J4 (by have:=Qh.o;omega)];grind)
    rw[HE.o]at HT;go_wp2_with(go_at_call 45;refine HT.o.mono ?_;clear HT;rintro e w1 ⟨u1,rfl,ah,aw⟩;obtain⟨a7,l7,c7,rfl⟩:=ah.form)
    go_ret;exact⟨_,rfl,ah,(Bt Qd.o HR.o.2).trans (aw.mono (As Qd.o.size HR.o.2.size))⟩
theorem aR{ps:List Rat}(h:Db ps):Db (Jd (YH (-1) ps)):=Db.of λi=>by
 rw[JX,Y5,show cf ps i*-1=-(cf ps i)from by grind];exact(h.at i).neg
theorem Is(t o:Value)(ps qs:List Rat)(w:G)(f:RowK false w t ps)(d:RowK false w o qs)(r:Db ps)(l:Db qs)(c:ps.length<1099511627776/\qs.length<1099511627776):
 Calls Tryz.prog 63 #[t,o] w λe q=>∃u,e=.returned u/\RowK false q u (J2 ps qs)/\Bl w q:=by
 obtain⟨a,la,ca,rfl⟩:=f.form;obtain⟨b,lb,cb,rfl⟩:=d.form;obtain⟨z,s,v,g⟩:=EC (show EX ps (Jd (YH (-1) qs))=J2 ps qs from YM λj=>by rw[Xw,JX,Xw]) (KH (-1) om om w) (λ(V:G) (u:Value) (h:Bl w V) (i:Js V u ((-1:Int):Rat))=>Rf _ u qs (-1) V (d.below h) i l (Sq.of (k:=1) ⟨(Sm.one 1 om).neg,Sm.one 1 om⟩ om) c.2) (λ(V:G) (u:Value) (h:Bl w V) (i:RowK false V u (Jd (YH (-1) qs)))=>IG _ u ps _ V (f.below h) i r (aR l) ⟨c.1,Cs (JB _) (by unfold YH;rw[FO];exact c.2)⟩);rw[z.o]at g;clear f d r l c;go_enter Tryz.func63,Tryz.ntmps63
 go_wp2_with(first
  |(go_at_call 42;refine s.o.mono ?_;clear s;rintro e L ⟨u1,rfl,y,n⟩)
  |(go_at_call 76;refine(v.o _ _ n y).mono ?_;clear v;rintro e J ⟨u2,rfl,A,D⟩;have p:=Bt n D)
  |(go_at_call 64;refine(g.o _ _ p A).mono ?_;clear g;rintro e I ⟨u3,rfl,m,E⟩;have x:=Bt p E;obtain⟨K,N,M,rfl⟩:=m.form))
 go_ret;exact⟨_,rfl,m,x⟩
theorem K4(M:Value)(n:Nat)(q:Rat)(w:G)(hq:Js w M q)(hn:n<1099511627775):
 Calls Tryz.prog 78 #[B H (n:Int),M] w λe P=>∃u,e=.returned u/\RowK false P u (Jd (Dn n [q]))/\Bl w P:=by
 obtain⟨v,z,s,D,m,t,y,r,rfl⟩:=Js.form hq;have b0:=JK.new w 85 (C v z s) (F D) (C m t y) (F r);have d:Bl w (w.alloc (.cells #[C v z s,F D,C m t y,F r] 85)):=Ba w _;obtain⟨W0,p⟩:=ex (w.alloc (.cells #[C v z s,F D,C m t y,F r] 85));rw[p]at d b0;obtain⟨Qf,HQ,I,Qg⟩:=EC p (hq.below d) d b0;clear hq p b0 d;go_enter Tryz.func78,Tryz.ntmps78
 go_upto_region 1 with fail
 rw[Qf.o];go_wp2;go_loopw [5,6] (λo i wr=>∃k:Nat,k<=n/\i=B H (k:Int)/\(∃L Q,o=C L k Q)/\Hid (Gm false W0 wr o (X9 (λ_=>0) k))) (λ_ i _=>n-(intOf i).toNat)
 case atStart=>exact⟨0,AK _,rfl,⟨_,_,rfl⟩,Ja ⟨El.nil _ _ _,BB _ _⟩⟩
 case round=>
  obtain⟨k,hk,rfl,⟨L,Q,rfl⟩,a⟩:=hrel;by_cases an:k<n
  . have ak:(k:Int)<(n:Int):=om
    have K:=Ja (KH 0 om om wr);have W:=Ja (show k+1<=1099511627776 by omega);go_wp2_with(first
     |(go_at_call 42;refine K.o.mono ?_;clear K;rintro e Z ⟨u3,rfl,g,l⟩;obtain⟨ae,ad,aj,ai,ap,af,am,ah,rfl⟩:=Js.form g;obtain⟨v9,N,f,b,x,c⟩:=KB false W0.heap.size Z _ _ (a.o.1.below l) g (by rw[JP];exact W.o) (by have:=a.o.2.size;have:=l.size;omega);have O:=Ja b;have Qh:=Ja (c W0.heap.size W0 (Aa _) (Bt a.o.2 l));clear b x c g)
     |(at_builtin;refine Bi _ rfl _ _ 30 30 rfl _ _ rfl rfl _ _ f ?_))
    obtain⟨Y,U,R,_⟩:=O.o.form;go_roundw
    case rel=>
     refine⟨k+1,om,by go_num,⟨Y,U,?_⟩,Ja ⟨?_,Qh.o⟩⟩
     . rw[Ai,JP]at R;exact R
     . rw[Xj];exact O.o
    case measure=>simp[intOf];omega
  . have V:k=n:=om
    subst V;have n0:=Qg.o.below a.o.2;obtain⟨e0,e1,e2,e3⟩:=n0.cq;obtain⟨v9,N,f,b,x,c⟩:=KB false W0.heap.size wr _ _ a.o.1 (HQ.o.below a.o.2) (by rw[JP];omega) a.o.2.size;dsimp only[GN,EK]at f;have HE:=Ja (show Jd (X9 (λ_=>0) k++[q])=Jd (Dn k [q])from YM λj=>by
     rw[Mq,JP,IV,MP];by_cases E:j=k
     . rw[BG E,BG om,E,A3,Xl]
     . rw[BC E];by_cases T:k<=j
       . rw[BG T,J4 si];split<;>rfl
       . rw[BC T];split<;>rfl)
    have S:=c W0.heap.size W0 (Aa _) a.o.2;have A:=Ja (K3 _ _ N (b.row (by rw[Ai,JP];simp;omega)));rw[HE.o]at A;clear b x c n0;go_wp2_with(first
     |(at_builtin;refine Bi _ rfl _ _ 30 30 rfl _ _ rfl rfl _ _ f ?_)
     |(go_at_call 45;refine A.o.mono ?_;clear A;rintro e w1 ⟨u1,rfl,J,X⟩;obtain⟨a7,l7,c7,rfl⟩:=J.form))
    go_ret;exact⟨_,rfl,J,(Bt I.o S).trans (X.mono (As I.o.size S.size))⟩
def DZ(W:G)(R:Nat)(s:ByteArray)(I E A:Int):Prop:=W.heap[R]?=some (.cells #[.string s,B H I,B H E,B H A] 106 (0,0))
section
variable {W W':World} {R:Nat} {s:ByteArray} {I E A:Int}
theorem DZ.lt(h:DZ W R s I E A):R<W.heap.size:=(Ab.1 h).1
theorem DZ.c0(h:DZ W R s I E A):W.cell? ⟨R,0,none⟩=some (.string s):=by simp[World.cell?,show W.heap[R]?=_ from h]
theorem DZ.c1(h:DZ W R s I E A):W.cell? ⟨R,1,none⟩=some (B H I):=by simp[World.cell?,show W.heap[R]?=_ from h]
theorem DZ.cp(h:DZ W R s I E A):type_of% (And.intro h.c0 h.c1):=⟨h.c0,h.c1⟩
theorem DZ.c2(h:DZ W R s I E A):W.cell? ⟨R,2,none⟩=some (B H E):=by simp[World.cell?,show W.heap[R]?=_ from h]
theorem DZ.c3(h:DZ W R s I E A):W.cell? ⟨R,3,none⟩=some (B H A):=by simp[World.cell?,show W.heap[R]?=_ from h]
theorem DZ.cq(h:DZ W R s I E A):type_of% (And.intro h.c0 (And.intro h.c1 (And.intro h.c2 h.c3))):=⟨h.c0,h.c1,h.c2,h.c3⟩
theorem DZ.f(h:DZ W R s I E A)(o:Nat):W.frozen? ⟨R,o,none⟩=false:=by simp[World.frozen?,show W.heap[R]?=_ from h]
theorem DZ.below(h:DZ W R s I E A)(a:Bl W W'):DZ W' R s I E A:=(a.block R h.lt).trans h
theorem DZ.set1(h:DZ W R s I E A)(x:Int):DZ (W.setCell ⟨R,1,none⟩ (B H x)) R s x E A:=by
 have:=JZ (o:=1) h (B H x);exact this
theorem DZ.set2(h:DZ W R s I E A)(x:Int):DZ (W.setCell ⟨R,2,none⟩ (B H x)) R s I x A:=by
 have:=JZ (o:=2) h (B H x);exact this
theorem DZ.set3(h:DZ W R s I E A)(x:Int):DZ (W.setCell ⟨R,3,none⟩ (B H x)) R s I E x:=by
 have:=JZ (o:=3) h (B H x);exact this
theorem DZ.drewN(h:DZ W R s I E A)(n:Nat):DZ (W.drewN n) R s I E A:=h
end
variable{s:ByteArray}{I j:Nat}{c:UInt8}
theorem JI(W:G)(n:Nat)(r:Option Nat):W.grownBy (W.drewN n) r:=⟨rfl,rfl,rfl,Aa _,λ_ _ _=>rfl⟩
theorem It(R:Nat)(s:ByteArray)(I E A e p:Int)(w:G)(h:DZ w R s I E A):
 Calls Tryz.prog 66 #[.pointer (some ⟨R,0,none⟩),B H e,B H p] w λr a=>r=.returned (.tuple #[])/\DZ a R s I (if E=0 then e else E) (if E=0 then p else A)/\w.grownBy a (some R):=by
 have c2:=h.c2;have f2:=h.f 2;have f3:=h.f 3;have c3:=h.c3;by_cases hE:E=0
 . rw[BG hE,BG hE];go_enter Tryz.func66,Tryz.ntmps66
   go_wp2;go_end0;exact⟨rfl,(h.set2 e).set3 p,Jh (JC w R 2 _) (JC _ R 3 _)⟩
 . rw[BC hE,BC hE];have b:(E==0)=false:=by rw[BH];exact hE
   go_enter Tryz.func66,Tryz.ntmps66
   go_wp2;go_end0;exact⟨rfl,h,YD _ _⟩
theorem MQ{d:UInt8}(h:c≠d):((c.toNat:Int)==(d.toNat:Int))=false:=by
 rw[BH];intro e;exact h (DE.1 om)
theorem Ji(s:ByteArray):(Je s).length=s.size:=by unfold Je;simp
theorem MR{f:UInt8->Bool}(b:I<=j)(e:j<=s.size)(i:∀k (a:k<s.size),I<=k->k<j->f s[k]=true)(c:∀l:j<s.size,f s[j]=false):Xq f (Je s) I=j:=
 Lb b (by rw[Ji];exact e) (λk a g d=>i k (by rwa[Ji]at a) g d) (λa=>c (by rwa[Ji]at a))
theorem Rg(a:j<s.size):JO (Je s) j c=(s[j]==c):=by
 unfold JO;rw[Ah (by rw[Ji];exact a)];rfl
theorem Rh(a:s.size<=j):JO (Je s) j c=false:=by
 unfold JO;rw[At (by rw[Ji];exact a)];rfl
def E1(W:G)(R:Nat):Nat:=(intOf ((W.cell? ⟨R,1,none⟩).getD undef)).toNat
theorem GO{W:G}{R:Nat}{E A:Int}(h:DZ W R s I E A):E1 W R=I:=by
 unfold E1;rw[h.c1];simp[intOf]
theorem YE(R:Nat)(s:ByteArray)(I:Nat)(E A:Int)(c:UInt8)(w:G)(h:DZ w R s I E A)(L:I<=s.size)(hs:s.size<=300):
 Calls Tryz.prog 65 #[.pointer (some ⟨R,0,none⟩),B .u8 (c.toNat:Int)] w λr x=>r=.returned (F (decide (E=0)&&JO (Je s) (DV (Je s) I) c))/\DZ x R s (DV (Je s) I:Nat) E A/\w.grownBy x (some R):=by
 have z:=Ja h;clear h;go_enter Tryz.func65,Tryz.ntmps65
 go_wp2;go_loopw [5] (λ_ wr=>∃j:Nat,I<=j/\j<=s.size/\Hid (DZ wr R s j E A/\w.grownBy wr (some R)/\∀k (n:k<s.size),I<=k->k<j->s[k]=32)) (λ_ wr=>s.size-E1 wr R)
 case atStart=>exact⟨I,Aa _,L,Ja ⟨z.o,YD _ _,λk _ t v=>by omega⟩⟩
 case round=>
  obtain⟨j,t,v,a⟩:=hrel;obtain⟨c0,c1⟩:=a.o.1.cp;have c2:=a.o.1.c2;have f1:=a.o.1.f 1;by_cases y:j<s.size
  . have Q:(j:Int)<(s.size:Int):=om
    have P:(0:Int)<=(j:Int):=om
    by_cases m:s[j]=32
    . have J:((s[j].toNat:Int)==32)=true:=by rw[m];rfl
      have D:=Ja m;clear m;go_wp2_with fail
      go_quiet (fail)
      go_wp2;go_roundw
      case rel=>
       refine⟨j+1,om,om,Ja ⟨?_,Jh (Jh a.o.2.1 (JI _ _ _)) (JC _ R 1 _),λk n o q=>?_⟩⟩
       . have:=(a.o.1.drewN nq).set1 ((j:Int)+1);rw[show((j:Int)+1)=((j+1:Nat):Int)from by omega]at this;exact this
       . by_cases e:k=j
         . subst e;exact D.o
         . exact a.o.2.2 k n o om
      case measure=>
       have K:=GO a.o.1;have N:E1 ((wr.drewN nq).setCell ⟨R,1,none⟩ (B H ((j:Int)+1))) R=j+1:=by
        have:=(a.o.1.drewN nq).set1 ((j:Int)+1);rw[show((j:Int)+1)=((j+1:Nat):Int)from by omega]at this ⊢;exact GO this
       show s.size-E1 ((wr.drewN nq).setCell ⟨R,1,none⟩ (B H ((j:Int)+1))) R<s.size-E1 wr R;rw[K,N];omega
    . have J:((s[j].toNat:Int)==32)=false:=MQ (d:=32) m;have b:=Ja (show DV (Je s) I=j from MR t v (λk n o q=>by rw[a.o.2.2 k n o q];rfl) (λ_=>BH.2 m));have g:=Ja (Rg (s:=s) (c:=c) y);clear m;go_wp2_with fail
      go_quiet (fail)
      go_wp2;have l:=Ja (show w.grownBy (wr.drewN nq) (some R)from Jh a.o.2.1 (JI _ _ _));have f:=Ja (a.o.1.drewN nq);by_cases hE:E=0
      . have u:(E==0)=true:=by rw[hE];rfl
        by_cases i:s[j]=c
        . have M:((s[j].toNat:Int)==(c.toNat:Int))=true:=by rw[i];exact beq_self_eq_true _
          have p:=Ja (show(decide (E=0)&&(s[j]==c))=true by rw[hE,i];simp);clear i hE;go_quiet (fail)
          go_wp2;go_ret;exact⟨by rw[b.o,g.o,p.o];rfl,by rw[b.o];exact f.o.drewN _,Jh l.o (JI _ _ _)⟩
        . have M:((s[j].toNat:Int)==(c.toNat:Int))=false:=MQ i;have p:=Ja (show(decide (E=0)&&(s[j]==c))=false by rw[BH.2 i,Bool.and_false]);clear i hE;go_quiet (fail)
          go_wp2;go_ret;exact⟨by rw[b.o,g.o,p.o];rfl,by rw[b.o];exact f.o.drewN _,Jh l.o (JI _ _ _)⟩
      . have u:(E==0)=false:=by rw[BH];exact hE
        have p:=Ja (show(decide (E=0)&&(s[j]==c))=false by rw[BI hE,Bool.false_and]);clear hE;go_quiet (fail)
        go_wp2;go_ret;exact⟨by rw[b.o,g.o,p.o];rfl,by rw[b.o];exact f.o.drewN _,Jh l.o (JI _ _ _)⟩
  . have O:decide (j<s.size)=false:=BI om;have b:=Ja (show DV (Je s) I=j from MR t v (λk n o q=>by rw[a.o.2.2 k n o q];rfl) (λh=>by omega));have g:=Ja (Rh (s:=s) (j:=j) (c:=c) om);clear y;go_wp2_with fail
    go_quiet (fail)
    go_wp2;have l:=Ja (show w.grownBy (wr.drewN nq) (some R)from Jh a.o.2.1 (JI _ _ _));have f:=Ja (a.o.1.drewN nq);by_cases hE:E=0
    . have u:(E==0)=true:=by rw[hE];rfl
      clear hE;go_quiet (fail)
      go_wp2;go_ret;exact⟨by rw[b.o,g.o,Bool.and_false];rfl,by rw[b.o];exact f.o.drewN _,Jh l.o (JI _ _ _)⟩
    . have u:(E==0)=false:=by rw[BH];exact hE
      clear hE;go_quiet (fail)
      go_wp2;go_ret;exact⟨by rw[b.o,g.o,Bool.and_false];rfl,by rw[b.o];exact f.o.drewN _,Jh l.o (JI _ _ _)⟩
end
section
attribute [local go_sem] Oper.semAt_some
variable{l:List UInt8}{d n p:Nat}
theorem Ri(c:UInt8)(w:G):Calls Tryz.prog 130 #[B .u8 (c.toNat:Int)] w λr e=>r=.returned (F (Dc c))/\e=w:=by
 by_cases b:48<=c.toNat
 . have f:decide ((48:Int)<=(c.toNat:Int))=true:=BK om;by_cases d:c.toNat<=57
   . have a:=Ja (show Dc c=true by simp[Dc,b,d]);go_enter Tryz.func130,Tryz.ntmps130
     go_wp2;go_ret;exact⟨by rw[a.o];simp;omega,rfl⟩
   . have a:=Ja (show Dc c=false by simp[Dc,d]);go_enter Tryz.func130,Tryz.ntmps130
     go_wp2;go_ret;exact⟨by rw[a.o];simp;omega,rfl⟩
 . have a:=Ja (show Dc c=false by simp[Dc,b]);go_enter Tryz.func130,Tryz.ntmps130
   go_wp2;go_ret;exact⟨by rw[a.o];rfl,rfl⟩
theorem J8(R:Nat)(s:ByteArray)(I:Nat)(E A:Int)(c:UInt8)(w:G)(h:DZ w R s I E A)(g:I<=s.size)(hs:s.size<=300)(b:Bool)(l:b=(decide (E=0)&&JO (Je s) (DV (Je s) I) c)):
 Calls Tryz.prog 61 #[.pointer (some ⟨R,0,none⟩),B .u8 (c.toNat:Int)] w λr k=>r=.returned (F b)/\DZ k R s ((DV (Je s) I+(if b then 1 else 0):Nat):Int) E A/\w.grownBy k (some R):=by
 have d:=Ja (YE R s I E A c w h g hs);have m:=Ja (show DV (Je s) I<=300 from As (Ys (by rw[Ji];exact g)) (by rw[Ji];exact hs));rw[<-l]at d;clear h g hs l;cases b
 . go_enter Tryz.func61,Tryz.ntmps61
   go_wp2_with first
    |(go_at_call 65;refine d.o.mono ?_;clear d;rintro e n ⟨rfl,a,f⟩;have j:=Ja a;clear a;have i:=Ja f;clear f)
   go_ret;exact⟨rfl,j.o,i.o⟩
 . go_enter Tryz.func61,Tryz.ntmps61
   go_wp2_with first
    |(go_at_call 65;refine d.o.mono ?_;clear d;rintro e n ⟨rfl,a,f⟩;have j:=Ja a;have c1:=a.c1;have f1:=a.f 1;clear a;have i:=Ja f;clear f;have o:=m.o;clear m)
   go_ret;exact⟨rfl,j.o.set1 _,Jh i.o (JC _ R 1 _)⟩
theorem Rj(h:l.all Dc=true):num l<10^l.length:=by
 have:=Yi (LZ h);rwa[Kf]at this
def YG(l:List UInt8)(p d n:Nat):Prop:=p+d<=l.length/\((l.drop p).take d).all Dc=true/\n=num ((l.drop p).take (min 12 d))
theorem YG.zero(h:p<=l.length):YG l p 0 0:=⟨om,DQ,by simp[num,ED,val]⟩
theorem Rk(l:List UInt8)(p d:Nat)(h:p+d<l.length):(l.drop p).take (d+1)=(l.drop p).take d++[l[p+d]]:=by
 rw[Cg (by rw[AV];omega),Fe]
theorem YG.all{l:List UInt8}{p d n:Nat}(h:YG l p d n)(hl:p+d<l.length)(a:Dc l[p+d]=true):((l.drop p).take (d+1)).all Dc=true:=by
 rw[Rk l p d hl,Fu,h.2.1];simp[a]
theorem YG.next1(h:YG l p d n)(hl:p+d<l.length)(a:Dc l[p+d]=true)(b:d<12):YG l p (d+1) (10*n+(l[p+d].toNat-48)):=by
 refine⟨om,h.all hl a,?_⟩;rw[show min 12 (d+1)=d+1 from by omega,Rk l p d hl,ND,h.2.2,show min 12 d=d from by omega];omega
theorem YG.next2(h:YG l p d n)(hl:p+d<l.length)(a:Dc l[p+d]=true)(b:12<=d):YG l p (d+1) n:=by
 refine⟨om,h.all hl a,?_⟩;rw[show min 12 (d+1)=min 12 d from by omega];exact h.2.2
theorem YG.lt(h:YG l p d n):n<10^min 12 d:=by
 have e:((l.drop p).take (min 12 d)).all Dc=true:=by
  rw[A4];intro c a;refine A4.1 h.2.1 c ?_;rw[show(l.drop p).take (min 12 d)=((l.drop p).take d).take (min 12 d)from by rw[List.take_take];congr 1;omega]at a;exact FK a
 have b:=Rj e;rw[Al,AV,<-h.2.2]at b;have:=h.1;rwa[show min (min 12 d) (l.length-p)=min 12 d from by omega]at b
theorem YG.lt12(h:YG l p d n):n<1000000000000:=
 AC h.lt (Aw (n:=10) om (by omega:min 12 d<=12))
theorem YG.lt11(h:YG l p d n)(a:d<12):n<100000000000:=
 AC h.lt (Aw (n:=10) om (by omega:min 12 d<=11))
theorem YG.dg(h:YG l p d n)(a:∀hl:p+d<l.length,Dc l[p+d]=false):Ed l p=p+d:=by
 refine Lb om h.1 (λk c b e=>?_) a;have:=A4.1 h.2.1 (l[k]) ?_
 . exact this
 . rw[List.mem_iff_getElem];refine⟨k-p,by rw[Al,AV];omega,?_⟩;rw[List.getElem_take,Fe];congr 1;omega
def EM{α:Type}(r:Rd α)(E:Int):Int:=if E=0 then(match r with|.bad e _=>(e:Int)|.ok _ _=>0)else E
def Eh{α:Type}(r:Rd α)(E A:Int):Int:=if E=0 then(match r with|.bad _ p=>(p:Int)|.ok _ _=>A)else A
theorem OM(R:Nat)(s:ByteArray)(I:Nat)(E A:Int)(p:Nat)(w:G)(h:DZ w R s I E A)(W:I<=s.size)(hs:s.size<=300)(hp:DV (Je s) I=p):
 Calls Tryz.prog 102 #[.pointer (some ⟨R,0,none⟩)] w λr w'=>∃d n:Nat,r=.returned (.tuple #[B H (n:Int),B H (p:Int)])/\Ed (Je s) p=p+d/\YG (Je s) p d n/\DZ w' R s ((p+d:Nat):Int) (EM (JY (Je s) I) E) (Eh (JY (Je s) I) E A)/\w.grownBy w' (some R):=by
 have HI:=Ja (YE R s I E A 32 w h W hs);rw[hp]at HI;have Qn:p<=s.size:=by rw[<-hp];exact As (Ys (by rw[Ji];exact W)) (by rw[Ji];exact Aa _)
 have O:=Ja hp;have u:=Ja (λ(x y:Int) (I':Int) (V:G) (hh:DZ V R s I' E A)=>It R s I' E A x y V hh);clear h W hp;go_enter Tryz.func102,Tryz.ntmps102
 go_wp2_with first
  |(go_at_call 65;refine HI.o.mono ?_;clear HI;rintro e w1 ⟨rfl,T,ad⟩;have Qm:=Ja T;have c1:=T.c1;clear T;have Qo:=Ja ad;clear ad)
 go_loopw [5] (λnv wr=>∃d n:Nat,nv=B H (n:Int)/\p+d<=s.size/\Hid (DZ wr R s ((p+d:Nat):Int) E A/\w.grownBy wr (some R)/\YG (Je s) p d n)) (λ_ wr=>s.size-E1 wr R)
 case atStart=>exact⟨0,0,rfl,om,Ja ⟨Qm.o,Qo.o,YG.zero (by rw[Ji];exact Qn)⟩⟩
 case round=>
  clear c1;obtain⟨d,n,rfl,ae,c⟩:=hrel;obtain⟨j,X⟩:∃j,j=p+d:=⟨_,rfl⟩;have b:=Ja X;rw[<-X]at ae c;have af:(j:Int)-(p:Int)=(d:Int):=om
  clear X;obtain⟨c0,c1⟩:=c.o.1.cp;have f1:=c.o.1.f 1;by_cases aj:j<s.size
  . have ai:(j:Int)<(s.size:Int):=om
    have ah:(0:Int)<=(j:Int):=om
    by_cases q:Dc s[j]=true
    . have N:=Ja (Ri s[j]);rw[q]at N;have ak:=YR q;have Qk:=Ja q;clear q;go_wp2_with fail
      go_quiet ((go_at_call 130;exact Calls.quiet_of_same (N.o _)))
      obtain⟨D,h0⟩:∃k,k=nq:=⟨nq,rfl⟩;subst h0;have o:=Ja (show DZ (wr.drewN D) R s (j:Int) E A/\w.grownBy (wr.drewN D) (some R)/\YG (Je s) p d n from⟨c.o.1.drewN D,Jh c.o.2.1 (JI _ _ _),c.o.2.2⟩);have Ql:=Ja (GO c.o.1);clear N;by_cases S:d<12
      . have P:(d:Int)<12:=om
        have hn:=o.o.2.2.lt11 S;go_wp2;go_quiet (fail)
        go_wp2;go_roundw
        case rel=>
         refine⟨d+1,10*n+(s[j].toNat-48),?_,?_,Ja ⟨?_,?_,?_⟩⟩
         . congr 1;omega
         . have:=b.o;omega
         . have:=(c.o.1.drewN (D+nq)).set1 ((j:Int)+1);rw[show((j:Int)+1)=((p+(d+1):Nat):Int)from by have:=b.o;omega]at this ⊢;exact this
         . exact Jh (Jh c.o.2.1 (JI _ _ _)) (JC _ R 1 _)
         . have:=c.o.2.2.next1 (by rw[Ji];have:=b.o;omega) (by simp only[<-b.o];exact Qk.o) S;simp only[<-b.o]at this;exact this
        case measure=>
         have Q:=GO ((c.o.1.drewN (D+nq)).set1 ((j+1:Nat):Int));rw[show((j+1:Nat):Int)=(j:Int)+1 from by omega]at Q;rw[Q,Ql.o];omega
      . have P:¬(d:Int)<12:=om
        go_wp2;go_roundw
        case rel=>
         refine⟨d+1,n,rfl,?_,Ja ⟨?_,?_,?_⟩⟩
         . have:=b.o;omega
         . have:=(c.o.1.drewN D).set1 ((j:Int)+1);rw[show((j:Int)+1)=((p+(d+1):Nat):Int)from by have:=b.o;omega]at this ⊢;exact this
         . exact Jh (Jh c.o.2.1 (JI _ _ _)) (JC _ R 1 _)
         . exact c.o.2.2.next2 (by rw[Ji];have:=b.o;omega) (by simp only[<-b.o];exact Qk.o) om
        case measure=>
         have Q:=GO ((c.o.1.drewN D).set1 ((j+1:Nat):Int));rw[show((j+1:Nat):Int)=(j:Int)+1 from by omega]at Q;rw[Q,Ql.o];omega
    . have N:=Ja (Ri s[j]);have q:=Bool.eq_false_iff.2 q;rw[q]at N;have i:=Ja (show Ed (Je s) p=j by rw[b.o];exact c.o.2.2.dg (λhl=>by simp only[<-b.o];exact q));clear q;go_wp2_with fail
      go_quiet ((go_at_call 130;exact Calls.quiet_of_same (N.o _)))
      obtain⟨J,L,M⟩:=Dm (c.o.1.drewN nq) (show w.grownBy (wr.drewN nq) (some R)from Jh c.o.2.1 (JI _ _ _)) c.o.2.2;clear c;by_cases z:d=0
      . have l:j=p:=by have:=b.o;omega
        have g:=Ja (show JY (Je s) I=.bad 2 p by unfold JY;rw[O.o,i.o,BG l]);clear z;go_wp2_with first
         |(go_at_call 66;refine(u.o _ _ _ _ J.o).mono ?_;clear u;rintro e U ⟨rfl,f,m⟩;have o:=Ja f;have Z:=f.c1;clear f;have K:=Ja (Jh L.o m);clear m)
        refine BA (v:=.tuple #[B H (n:Int),B H (p:Int)]) (by simp[results,Tryz.results102,go_sem]) rfl ⟨d,n,rfl,by rw[i.o];exact b.o,M.o,?_,K.o⟩;rw[<-b.o];have:=o.o;rw[g.o];exact this
      . by_cases S:12<d
        . have l:¬j=p:=by have:=b.o;omega
          have Y:((j:Int)==(p:Int))=false:=by rw[BH];omega
          have P:(12:Int)<(d:Int):=om
          have g:=Ja (show JY (Je s) I=.bad 3 p by unfold JY;rw[O.o,i.o,BC l,BG (by have:=b.o;omega)]);clear z;go_wp2_with first
           |(go_at_call 66;refine(u.o _ _ _ _ J.o).mono ?_;clear u;rintro e U ⟨rfl,f,m⟩;have o:=Ja f;have Z:=f.c1;clear f;have K:=Ja (Jh L.o m);clear m)
          refine BA (v:=.tuple #[B H (n:Int),B H (p:Int)]) (by simp[results,Tryz.results102,go_sem]) rfl ⟨d,n,rfl,by rw[i.o];exact b.o,M.o,?_,K.o⟩;rw[<-b.o];have:=o.o;rw[g.o];exact this
        . have l:¬j=p:=by have:=b.o;omega
          have Y:((j:Int)==(p:Int))=false:=by rw[BH];omega
          have P:¬(12:Int)<(d:Int):=om
          have t:∃a k,JY (Je s) I=.ok a k:=by unfold JY;rw[O.o,i.o,BC l,BC (by have:=b.o;omega)];exact⟨_,_,rfl⟩
          obtain⟨a,k,t⟩:=t;have g:=Ja (show EM (JY (Je s) I) E=E/\Eh (JY (Je s) I) E A=A by rw[t];unfold EM Eh;constructor<;>(by_cases hE:E=0<;>simp[hE]));clear t;clear z;go_wp2;refine BA (v:=.tuple #[B H (n:Int),B H (p:Int)]) (by simp[results,Tryz.results102,go_sem]) rfl ⟨d,n,rfl,by rw[i.o];exact b.o,M.o,?_,L.o⟩;rw[show((p:Int)+(d:Int))=(j:Int)from by have:=b.o;omega,g.o.1,g.o.2];exact J.o
  . have i:=Ja (show Ed (Je s) p=j by rw[b.o];exact c.o.2.2.dg (λhl=>absurd hl (by rw[Ji];have:=b.o;omega)));go_wp2_with fail
    go_quiet (fail)
    obtain⟨J,L,M⟩:=Dm (c.o.1.drewN nq) (show w.grownBy (wr.drewN nq) (some R)from Jh c.o.2.1 (JI _ _ _)) c.o.2.2;clear c;by_cases z:d=0
    . have l:j=p:=by have:=b.o;omega
      have g:=Ja (show JY (Je s) I=.bad 2 p by unfold JY;rw[O.o,i.o,BG l]);clear z;go_wp2_with first
       |(go_at_call 66;refine(u.o _ _ _ _ J.o).mono ?_;clear u;rintro e U ⟨rfl,f,m⟩;have o:=Ja f;have Z:=f.c1;clear f;have K:=Ja (Jh L.o m);clear m)
      refine BA (v:=.tuple #[B H (n:Int),B H (p:Int)]) (by simp[results,Tryz.results102,go_sem]) rfl ⟨d,n,rfl,by rw[i.o];exact b.o,M.o,?_,K.o⟩;rw[<-b.o];have:=o.o;rw[g.o];exact this
    . by_cases S:12<d
      . have l:¬j=p:=by have:=b.o;omega
        have Y:((j:Int)==(p:Int))=false:=by rw[BH];omega
        have P:(12:Int)<(d:Int):=om
        have g:=Ja (show JY (Je s) I=.bad 3 p by unfold JY;rw[O.o,i.o,BC l,BG (by have:=b.o;omega)]);clear z;go_wp2_with first
         |(go_at_call 66;refine(u.o _ _ _ _ J.o).mono ?_;clear u;rintro e U ⟨rfl,f,m⟩;have o:=Ja f;have Z:=f.c1;clear f;have K:=Ja (Jh L.o m);clear m)
        refine BA (v:=.tuple #[B H (n:Int),B H (p:Int)]) (by simp[results,Tryz.results102,go_sem]) rfl ⟨d,n,rfl,by rw[i.o];exact b.o,M.o,?_,K.o⟩;rw[<-b.o];have:=o.o;rw[g.o];exact this
      . have l:¬j=p:=by have:=b.o;omega
        have Y:((j:Int)==(p:Int))=false:=by rw[BH];omega
        have P:¬(12:Int)<(d:Int):=om
        have t:∃a k,JY (Je s) I=.ok a k:=by unfold JY;rw[O.o,i.o,BC l,BC (by have:=b.o;omega)];exact⟨_,_,rfl⟩
        obtain⟨a,k,t⟩:=t;have g:=Ja (show EM (JY (Je s) I) E=E/\Eh (JY (Je s) I) E A=A by rw[t];unfold EM Eh;constructor<;>(by_cases hE:E=0<;>simp[hE]));clear t;clear z;go_wp2;refine BA (v:=.tuple #[B H (n:Int),B H (p:Int)]) (by simp[results,Tryz.results102,go_sem]) rfl ⟨d,n,rfl,by rw[i.o];exact b.o,M.o,?_,L.o⟩;rw[show((p:Int)+(d:Int))=(j:Int)from by have:=b.o;omega,g.o.1,g.o.2];exact J.o
end
section
def Rd.pos{α:Type}(r:Rd α):Prop:=∀e p,r=.bad e p->e≠0
variable{E:Int}{l:List UInt8}{j k p:Nat}
theorem F0{α:Type}{r:Rd α}{a:α}(h:r=.ok a k)(E A:Int):EM r E=E/\Eh r E A=A:=by
 subst h;unfold EM Eh;constructor
 . by_cases hE:E=0
   . rw[BG hE,hE]
   . rw[BC hE]
 . by_cases hE:E=0
   . rw[BG hE]
   . rw[BC hE]
theorem aS{α:Type}{r:Rd α}{e:Nat}(h:r=.bad e p)(A:Int):EM r 0=(e:Int)/\Eh r 0 A=(p:Int):=by
 subst h;exact⟨rfl,rfl⟩
theorem Ht{α:Type}(r:Rd α)(h:E≠0)(A:Int):EM r E=E/\Eh r E A=A:=by
 unfold EM Eh;exact⟨BC h,BC h⟩
theorem MS{α:Type}{r:Rd α}(hp:r.pos)(h:EM r E=0):E=0/\∃a k,r=.ok a k:=by
 by_cases hE:E=0
 . refine⟨hE,?_⟩;cases r with
   |ok a k=>exact⟨a,k,rfl⟩
   |bad e p=>
    exfalso
    rw[hE,(aS rfl 0).1]at h;exact hp e p rfl om
 . rw[(Ht r hE 0).1]at h;exact absurd h hE
theorem KI(l:List UInt8)(i:Nat):(JY l i).pos:=by
 intro e p h;unfold JY at h;split at h
 . cases h;decide
 . split at h
   . cases h;decide
   . cases h
theorem aT(l:List UInt8)(i:Nat):(Yf l i).pos:=by
 intro e p h;unfold Yf at h;split at h
 . rename_i c b a;cases h;exact KI l i _ _ a
 . split at h
   . split at h
     . rename_i c b a;cases h;exact KI _ _ _ _ a
     . split at h
       . cases h;decide
       . cases h
   . cases h
theorem aU(l:List UInt8)(i:Nat):(EN l i).pos:=by
 intro e p h;unfold EN at h;split at h
 . split at h
   . rename_i c b a;cases h;exact KI _ _ _ _ a
   . split at h
     . cases h;decide
     . cases h
 . cases h
theorem Iu(l:List UInt8)(i:Nat):DV l (DV l i)=DV l i:=Tu _ l i
theorem Rl(l:List UInt8)(i:Nat):JY l (DV l i)=JY l i:=by unfold JY;rw[Iu]
theorem aV(l:List UInt8)(i:Nat):Yf l (DV l i)=Yf l i:=by unfold Yf;rw[Rl]
def GC(l:List UInt8)(i:Nat):Rd Rat:=if JO l (DV l i) 120 then .ok 1 (DV l i)else Yf l i
theorem Rm(l:List UInt8)(i:Nat):(GC l i).pos:=by
 unfold GC;split
 . intro e p h;cases h
 . exact aT l i
theorem Rn(h:GG l j=false):Ed l j=j:=by
 rcases AO j l.length with a|a
 . refine Lb (Aa _) om (λk _ c d=>by omega) (λb=>?_);unfold GG at h;rw[Ah b]at h;simpa using h
 . unfold Ed Xq;rw[AQ a];rfl
theorem aW(h:GG l j=true):JO l j 120=false:=by
 unfold GG at h;unfold JO;cases b:l[j]? with
 |none=>rfl
 |some c=>
  rw[b]at h;simp only[Fg,Fm]at h;have a:=YR h;rw[BH];intro e;cases e;simp at a
theorem IH(l:List UInt8)(i:Nat):JU l i=match GC l i with
 |.bad e p=>.bad e p
 |.ok c k=>if JO l (DV l k) 120 then(match EN l (DV l k+1)with|.bad e p=>.bad e p|.ok n m=>.ok (c,n) m)else .ok (c,0) (DV l k):=by
 unfold JU GC;cases a:GG l (DV l i)with
 |true=>
  rw[aW a,aV];simp only[if_true,A9,if_false];cases Yf l i<;>rfl
 |false=>
  simp only[A9,if_false];cases b:JO l (DV l i) 120 with
  |true=>
   simp only[if_true,Iu,b];cases EN l (DV l i+1)<;>rfl
  |false=>
   simp only[A9,if_false];unfold Yf JY;rw[BG (Rn a)]
theorem YG.of_ok{i d n:Nat}(h:YG l p d n)(hp:DV l i=p)(c:Ed l p=p+d){ds:List UInt8}{b:Nat}(a:JY l i=.ok (ds,b) k):b=p/\k=p+d/\num ds=n:=by
 unfold JY at a;rw[hp,c]at a;split at a
 . cases a
 . split at a
   . cases a
   . rename_i e f;simp only[Rd.ok.injEq,Prod.mk.injEq]at a;obtain⟨⟨rfl,rfl⟩,rfl⟩:=a;refine⟨rfl,rfl,?_⟩;rw[h.2.2,show p+d-p=d from by omega,show min 12 d=d from by omega]
section
variable {W W':World} {R:Nat} {s:ByteArray} {I E A:Int}
variable{v:Value}
theorem MT(h:DZ W R s I E A){cs:Array Value}{t:TypeId}{m:Nat × Nat}{b:Nat}(c:W.heap[b]?=some (.cells cs t m))(a:t≠106):b≠R:=by
 intro e;subst e;have:=c.symm.trans h;simp only[Ag,Bu]at this;exact a this.2.1
theorem Ro(h:DZ W R s I E A)(g:W.grownBy W' (some R)):∀k v ds,Row k W v ds->Row k W' v ds:=by
 intro k v ds c;obtain⟨a,cap,e,_⟩:=id c;subst e;refine c.grown g (λp d hl=>?_);obtain⟨b,off,i,cs,m,f⟩:=c.typ hl;rw[i]at d;cases d;exact MT h f (by cases k<;>(show _≠_;decide))
theorem Js.rd{q:Rat}(b:Js W v q)(h:DZ W R s I E A)(a:W.grownBy W' (some R)):Js W' v q:=EQ.keep (r:=false) b (Ro h a)
theorem RowK.rd{qs:List Rat}(i:RowK false W v qs)(h:DZ W R s I E A)(f:W.grownBy W' (some R)):RowK false W' v qs:=by
 obtain⟨a,cap,e,g,j,m,c⟩:=i;refine⟨a,cap,e,g,j,m,?_⟩;rcases c with c|⟨b,k,d⟩
 . exact Or.inl c
 . refine Or.inr ⟨b,k,d.keep (f.block b d.lt ?_) (Ro h f)⟩;obtain⟨cs,l,_⟩:=d;have:=MT h l (by show(85:TypeId)≠_;decide);intro e;cases e;exact this rfl
end
def GD(w V:G)(R B:Nat)(s:ByteArray)(I E A:Int)(c:Rat):Prop:=
 DZ V R s I E A/\(∃a l ca e b k d t,JK V B 85 (C a l ca) (F e) (C b k d) (F t)/\Js V (.agg #[C a l ca,F e,C b k d,F t]) c)/\w.grownBy V (some R)/\w.heap.size<=B
section
variable {w V V':World} {R B:Nat} {s:ByteArray} {I E A I' E' A':Int} {c:Rat}
theorem GD.below(h:GD w V R B s I E A c)(e:Bl V V'):GD w V' R B s I E A c:=by
 obtain⟨f,⟨a,l,ca,g,b,k,d,t,i,n⟩,m,j⟩:=h;exact⟨f.below e,⟨a,l,ca,g,b,k,d,t,i.below e,n.below e⟩,Jh m (J1 e _),j⟩
theorem GD.rd(h:GD w V R B s I E A c)(j:DZ V' R s I' E' A')(f:V.grownBy V' (some R)):GD w V' R B s I' E' A' c:=by
 obtain⟨i,⟨a,l,ca,o,b,k,d,t,g,q⟩,m,p⟩:=h;have n:B≠R:=MT i g DS;exact⟨j,⟨a,l,ca,o,b,k,d,t,(f.block B g.lt (λe=>n (Ch e))).trans g,q.rd i f⟩,Jh m f,p⟩
theorem Ya{w V:G}{r:Option Nat}{B:Nat}(h:w.grownBy V r)(s:w.heap.size<=B)(o:Nat)(x:Value):w.grownBy (V.setCell ⟨B,o,none⟩ x) r:=by
 have a:=JC V B o x;obtain⟨c,q,j,l,p⟩:=h;obtain⟨k,f,m,n,b⟩:=a;exact⟨k.trans c,f.trans q,m.trans j,As l n,λi d g=>(b i om (by intro e;cases e;omega)).trans (p i d g)⟩
theorem GD.put(h:GD w V R B s I E A c){a:Option Addr}{l ca:Nat}{j:Bool}{b:Option Addr}{k d:Nat}{t:Bool}{c':Rat}(v:Js V (.agg #[C a l ca,F j,C b k d,F t]) c'):
 GD w (put4 V B (C a l ca) (F j) (C b k d) (F t)) R B s I E A c':=by
 obtain⟨n,⟨J,z,D,y,b0,x,d0,K,m,L⟩,p,f⟩:=h;have i:R≠B:=λe=>MT n m DS e.symm;refine⟨?_,⟨a,l,ca,j,b,k,d,t,m.put _ _ _ _,EQ.keep (r:=false) v (λ_ _ _ g=>Row.put4 g m rfl rfl rfl rfl _ _ _ _)⟩,Ya (Ya (Ya (Ya p f 0 _) f 1 _) f 2 _) f 3 _,f⟩;have q:=(BD V ⟨B,0,none⟩ (C a l ca) R i).trans n;have o:=(BD _ ⟨B,1,none⟩ (F j) R i).trans q;have u:=(BD _ ⟨B,2,none⟩ (C b k d) R i).trans o;exact(BD _ ⟨B,3,none⟩ (F t) R i).trans u
end
end
attribute [local go_sem] Oper.semAt_some
variable{A E f g:Int}{l:List UInt8}{I b d n p:Nat}{c:Rat}
theorem Da.word(h:n<1000000000000):Da (n:Int):=Da.of (k:=1) (by unfold Sm DR;omega) om
def F4(c:Rat):Prop:=∃x y:Nat,c=Rat.divInt (x:Int) (y:Int)/\x<1000000000000/\y≠0/\y<1000000000000
theorem F4.one:F4 1:=⟨1,1,DS,om,om,om⟩
def X3(l:List UInt8)(I:Nat)(E A:Int)(c:Rat)(a:Nat)(b d:Int):Prop:=
 b=EM (GC l I) E/\d=Eh (GC l I) E A/\F4 c/\a<=l.length/\(E=0->∀c0 k,GC l I=.ok c0 k->c=c0/\a=k)
theorem aX(b:I<=l.length)(h:(decide (E=0)&&JO l (DV l I) 120)=true):X3 l I E A 1 (DV l I) E A:=by
 rw[AM]at h;have e:GC l I=.ok 1 (DV l I):=by unfold GC;rw[BG h.2]
 refine⟨(F0 e E A).1.symm,(F0 e E A).2.symm,F4.one,Ys b,λ_ c0 k a=>?_⟩;rw[e]at a;cases a;exact⟨rfl,rfl⟩
theorem Rp(h:(decide (E=0)&&JO l (DV l I) 120)=false)(hE:E=0):GC l I=Yf l I:=by
 rw[hE]at h;simp at h;unfold GC;rw[h];simp
theorem ON(n:Nat):Rat.divInt (n:Int) 1=((n:Int):Rat):=by
 rw[<-Fb ((n:Int):Rat)];simp
theorem aY(h:(decide (E=0)&&JO l (DV l I) 120)=false)(hp:DV l I=p)(o:Ed l p=p+d)(j:YG l p d n)
(i:(decide (EM (JY l I) E=0)&&JO l (DV l (p+d)) 47)=false):X3 l I E A (Rat.divInt (n:Int) 1) (DV l (p+d)) (EM (JY l I) E) (Eh (JY l I) E A):=by
 have m:F4 (Rat.divInt (n:Int) 1):=⟨n,1,rfl,j.lt12,om,om⟩;have c:DV l (p+d)<=l.length:=Ys j.1;by_cases hE:E=0
 . rw[X3,Rp h hE];subst hE;cases b:JY l I with
   |bad e q=>
    have g:Yf l I=.bad e q:=by unfold Yf;rw[b]
    rw[g];exact⟨rfl,rfl,m,c,λ_ c0 k f=>by cases f⟩
   |ok a k=>
    obtain⟨ds,s⟩:=a;obtain⟨rfl,rfl,rfl⟩:=j.of_ok hp o b;rw[b,(F0 rfl 0 0).1]at i;simp at i;have g:Yf l I=.ok ((num ds:Int):Rat) (DV l (s+d)):=by unfold Yf;rw[b];simp[i]
    rw[g];refine⟨rfl,rfl,m,c,λ_ c0 k f=>?_⟩;cases f;exact⟨ON _,rfl⟩
 . refine⟨?_,?_,m,c,λr=>absurd r hE⟩
   . rw[(Ht _ hE A).1,(Ht _ hE A).1]
   . rw[(Ht _ hE A).2,(Ht _ hE A).2]
theorem aZ{o t:Nat}(h:(decide (E=0)&&JO l (DV l I) 120)=false)(hp:DV l I=p)(J:Ed l p=p+d)(w:YG l p d n)
(j:(decide (EM (JY l I) E=0)&&JO l (DV l (p+d)) 47)=true)(K:DV l (DV l (p+d)+1)=b)(L:Ed l b=b+o)(f:YG l b o t)(i v:Int)(u:i=EM (JY l (DV l (p+d)+1)) (EM (JY l I) E))(hA2:v=Eh (JY l (DV l (p+d)+1)) (EM (JY l I) E) (Eh (JY l I) E A)):
 (t=0->X3 l I E A (Rat.divInt (n:Int) 1) (b+o) (if i=0 then 4 else i) (if i=0 then(b:Int)else v))/\(t≠0->X3 l I E A (Rat.divInt (n:Int) (t:Int)) (b+o) i v):=by
 rw[AM,BR]at j;obtain⟨hE,a,k,s⟩:=MS (KI l I) j.1;obtain⟨ds,M⟩:=a;obtain⟨rfl,rfl,rfl⟩:=w.of_ok hp J s;subst hE;have D:F4 (Rat.divInt (num ds:Int) 1):=⟨num ds,1,rfl,w.lt12,om,om⟩;rw[j.1]at u hA2;rw[s,(F0 rfl 0 A).2]at hA2;unfold X3;rw[Rp h rfl];cases c:JY l (DV l (M+d)+1)with
 |bad e q=>
  have r:Yf l I=.bad e q:=by unfold Yf;rw[s];simp[j.2,c]
  have P:=KI _ _ _ _ c;rw[c]at u hA2;have N:i=(e:Int):=u;have O:v=(q:Int):=hA2;have z:¬i=0:=om
  rw[r,BC z,BC z,N,O];refine⟨λ_=>⟨rfl,rfl,D,f.1,λ_ c0 k g=>by cases g⟩,λm=>⟨rfl,rfl,⟨num ds,t,rfl,w.lt12,m,f.lt12⟩,f.1,λ_ c0 k g=>by cases g⟩⟩
 |ok a k=>
  obtain⟨y,x⟩:=a;obtain⟨rfl,rfl,rfl⟩:=f.of_ok K L c;rw[c,(F0 rfl 0 A).1]at u;rw[c,(F0 rfl 0 A).2]at hA2;subst u hA2;rw[BG rfl,BG rfl];refine⟨λm=>?_,λm=>?_⟩
  . have r:Yf l I=.bad 4 x:=by unfold Yf;rw[s];simp[j.2,c,m]
    rw[r];exact⟨rfl,rfl,D,f.1,λ_ c0 k g=>by cases g⟩
  . have r:Yf l I=.ok (Rat.divInt (num ds) (num y)) (x+o):=by unfold Yf;rw[s];simp[j.2,c,m]
    rw[r];refine⟨rfl,rfl,⟨num ds,num y,rfl,w.lt12,m,f.lt12⟩,f.1,λ_ c0 k g=>?_⟩;cases g;exact⟨rfl,rfl⟩
def XD(l:List UInt8)(I:Nat)(E A:Int)(c:Rat)(n I':Nat)(E' A':Int):Prop:=
 E'=EM (JU l I) E/\A'=Eh (JU l I) E A/\(E=0->∀c0 n0 k,JU l I=.ok (c0,n0) k->c=c0/\n=n0/\I'=k)
theorem X3.zero(h:X3 l I E A c b f g)(e:f=0):E=0/\g=A/\GC l I=.ok c b:=by
 have d:=h.1;rw[e]at d;obtain⟨hE,c0,k,a⟩:=MS (Rm l I) d.symm;obtain⟨rfl,rfl⟩:=h.2.2.2.2 hE c0 k a;exact⟨hE,h.2.1.trans (F0 a E A).2,a⟩
theorem X3.set(h:X3 l I E A c b f g)(o:f≠0)(n I':Nat):XD l I E A c n I' f g:=by
 by_cases hE:E=0
 . subst hE;cases j:GC l I with
   |ok c0 k=>
    have:=h.1;rw[j,(F0 rfl 0 A).1]at this;exact absurd this o
   |bad e p=>
    have i:JU l I=.bad e p:=by rw[IH,j]
    have a:=h.1;have d:=h.2.1;rw[j]at a d;exact⟨by rw[i];exact a,by rw[i];exact d,λ_ c0 n0 k m=>by rw[i]at m;cases m⟩
 . have a:=h.1;have d:=h.2.1;rw[(Ht _ hE A).1]at a;rw[(Ht _ hE A).2]at d;exact⟨by rw[(Ht _ hE A).1];exact a,by rw[(Ht _ hE A).2];exact d,λh=>absurd h hE⟩
theorem XD.of{I':Nat}(h:JU l I=.ok (c,n) I'):XD l I 0 A c n I' 0 A:=by
 refine⟨by rw[(F0 h 0 A).1],by rw[(F0 h 0 A).2],λ_ c0 n0 k a=>?_⟩;rw[h]at a;cases a;exact⟨rfl,rfl,rfl⟩
theorem XD.bad{l:List UInt8}{I:Nat}{A:Int}{e p:Nat}(c:Rat)(n I':Nat)(h:JU l I=.bad e p):XD l I 0 A c n I' e p:=by
 exact⟨by rw[h];rfl,by rw[h];rfl,λ_ c0 n0 k a=>by rw[h]at a;cases a⟩
theorem ar(h:X3 l I E A c b f g)(d:(decide (f=0)&&JO l (DV l b) 120)=false):XD l I E A c 0 (DV l b) f g:=by
 by_cases a:f=0
 . obtain⟨rfl,rfl,e⟩:=h.zero a;subst a;simp at d;refine XD.of ?_;rw[IH,e];simp[d]
 . exact h.set a _ _
theorem bA(h:X3 l I E A c b f g)(a:(decide (f=0)&&JO l (DV l b) 120)=true)(e:(decide (f=0)&&JO l (DV l (DV l b+1)) 94)=false):XD l I E A c 1 (DV l (DV l b+1)) f g:=by
 rw[AM,BR]at a;obtain⟨d,a⟩:=a;obtain⟨rfl,rfl,i⟩:=h.zero d;subst d;simp at e;refine XD.of ?_;rw[IH,i];simp[a,EN,e]
theorem bB(h:X3 l I E A c b f g)(o:(decide (f=0)&&JO l (DV l b) 120)=true)(m:(decide (f=0)&&JO l (DV l (DV l b+1)) 94)=true)(hp:DV l (DV l (DV l b+1)+1)=p)(y:Ed l p=p+d)(J:YG l p d n)(j r:Int)
(s:j=EM (JY l (DV l (DV l b+1)+1)) f)(hA5:r=Eh (JY l (DV l (DV l b+1)+1)) f g):(8<n->XD l I E A c 0 (p+d) (if j=0 then 3 else j) (if j=0 then(p:Int)else r))/\(¬8<n->XD l I E A c n (p+d) j r):=by
 rw[AM,BR]at o m;obtain⟨v,o⟩:=o;obtain⟨_,m⟩:=m;obtain⟨rfl,rfl,t⟩:=h.zero v;subst v;cases i:JY l (DV l (DV l b+1)+1)with
 |bad e q=>
  rw[i]at s hA5;have M:=KI _ _ _ _ i;have D:j=(e:Int):=s;have z:r=(q:Int):=hA5;have w:¬j=0:=om
  have x:JU l I=.bad e q:=by rw[IH,t];simp[o,EN,m,i]
  rw[BC w,BC w,D,z];exact⟨λ_=>XD.bad _ _ _ x,λ_=>XD.bad _ _ _ x⟩
 |ok a k=>
  obtain⟨L,K⟩:=a;obtain⟨rfl,rfl,rfl⟩:=J.of_ok hp y i;rw[i,(F0 rfl 0 0).1]at s;rw[i,(F0 rfl 0 _).2]at hA5;subst s hA5;rw[BG rfl,BG rfl];refine⟨λu=>XD.bad _ _ _ ?_,λu=>XD.of ?_⟩
  . rw[IH,t];simp[o,EN,m,i,u]
  . rw[IH,t];simp[o,EN,m,i,u]
theorem GD.new{w e:G}{R:Nat}{s:ByteArray}{I E A:Int}{c:Rat}(h:DZ w R s I E A)(i:Bl w e){a:Option Addr}{l ca:Nat}{f:Bool}{b:Option Addr}{k d:Nat}{t:Bool}(j:Js e (.agg #[C a l ca,F f,C b k d,F t]) c):
 GD w (e.alloc (.cells #[C a l ca,F f,C b k d,F t] 85)) R e.heap.size s I E A c:=by
 have g:Bl e (e.alloc (.cells #[C a l ca,F f,C b k d,F t] 85)):=Ba e _;exact⟨(h.below i).below g,⟨a,l,ca,f,b,k,d,t,JK.new _ _ _ _ _ _,j.below g⟩,Jh (J1 i _) (J1 g _),i.size⟩
theorem bC(R:Nat)(s:ByteArray)(I:Nat)(E A:Int)(w:G)(h:DZ w R s I E A)(hI:I<=s.size)(hs:s.size<=300):
 Calls Tryz.prog 62 #[.pointer (some ⟨R,0,none⟩)] w λr w'=>∃(u:Value) (c:Rat) (n I':Nat),r=.returned u/\RowK false w' u (Jd (Dn n [c]))/\n<=8/\F4 c/\I'<=s.size/\DZ w' R s (I':Int) (EM (JU (Je s) I) E) (Eh (JU (Je s) I) E A)/\(E=0->∀c0 n0 k,JU (Je s) I=.ok (c0,n0) k->c=c0/\n=n0/\I'=k)/\w.grownBy w' (some R):=by
 have Uh:I<=(Je s).length:=by rw[Ji];exact hI
 obtain⟨b1,bg⟩:=ex ((decide (E=0)&&JO (Je s) (DV (Je s) I) 120));have Uc:=Ja bg;obtain⟨t,az⟩:=ex (DV (Je s) I);have Qw:=Ja az;have Ui:t<=s.size:=by rw[<-az,<-Ji];exact Ys Uh
 have HW:=Ja (KH 1 om om w);have Ur:=Ja (λ(V:G) (f:DZ V R s I E A)=>YE R s I E A 120 V f hI hs);rw[bg,az]at Ur;have HH:=Ja h;have Wc:=Ja Uh;clear h bg az Uh hI;go_enter Tryz.func62,Tryz.ntmps62
 go_upto_region 2 with(first
  |(go_at_call 42;refine HW.o.mono ?_;clear HW;rintro e w1 ⟨u1,rfl,bn,ck⟩;obtain⟨f6,ew,ei,ed,fa,f9,ef,f7,rfl⟩:=Js.form bn))
 have hT:=GD.new HH.o ck bn;obtain⟨W0,ce⟩:=ex (w1.alloc (.cells #[C f6 ew ei,F ed,C fa f9 ef,F f7] 85));rw[ce]at hT;rw[ce];obtain⟨B,hB⟩:=ex (w1.heap.size);rw[hB]at hT;rw[hB];have HT:=Ja (show GD w W0 R B s I E A 1 from hT);clear hT bn ck ce hB;go_upto_if 15 with(first
  |(go_at_call 65;refine(Ur.o _ HT.o.1).mono ?_;clear Ur;rintro e w2 ⟨rfl,de,cl⟩;have Qu:=Ja (HT.o.rd de cl);clear de cl HT))
 go_cut [4] (λv w'=>v=F b1/\∃(c:Rat) (L:Nat) (d g:Int),Hid (GD w w' R B s (L:Int) d g c/\X3 (Je s) I E A c L d g))
 case first=>
  cases b1 with
  |true=>
   go_wp2_with fail
   go_meet
   case rel=>exact⟨rfl,1,t,E,A,Ja ⟨Qu.o,by rw[<-Qw.o];exact aX Wc.o Uc.o⟩⟩
  |false=>
   obtain⟨d,bt⟩:=ex (EM (JY (Je s) I) E);obtain⟨g,hA1⟩:=ex (Eh (JY (Je s) I) E A);have HN:=Ja (λ(V:G) (f:DZ V R s t E A)=>OM R s t E A t V f Ui hs (by rw[<-Qw.o];exact Iu _ _));have Uv:JY (Je s) t=JY (Je s) I:=by rw[<-Qw.o];exact Rl _ _
   rw[Uv,bt,hA1]at HN;have Qs:=Ja bt;have Uu:=Ja hA1;clear bt hA1 Uv;go_upto_if 22 with(first
    |(go_at_call 102;refine(HN.o _ Qu.o.1).mono ?_;clear HN;rintro e w3 ⟨d1,n1,rfl,dp,an,ak,ah⟩;have Q:=Ja (Qu.o.rd ak ah);clear ak ah Qu;have Us:=Ja dp;have Ut:=Ja an;have Um:=an.lt12;have eh:t+d1<=s.size:=(by rw[<-Ji];exact an.1);clear dp an;obtain⟨b2,bj⟩:∃b,b=(decide (d=0)&&JO (Je s) (DV (Je s) (t+d1)) 47):=⟨_,rfl⟩;have Uo:=Ja bj;have Un:=Ja (λ(V:G) (f:DZ V R s ((t+d1:Nat):Int) d g)=>J8 R s (t+d1) d g 47 V f eh hs b2 bj);clear bj;obtain⟨I2,cg⟩:=ex (DV (Je s) (t+d1));rw[cg]at Un;have Qo:=Ja cg;clear cg)
    |(go_at_call 61;refine(Un.o _ Q.o.1).mono ?_;clear Un;rintro e w4 ⟨rfl,af,am⟩;have D:=Ja (Q.o.rd af am);clear af am Q))
   have Qm:=Ja (λ(V:G)=>Hl (n1:Int) om om V);have Uj:=Ja (Da.word Um);cases b2 with
   |false=>
    obtain⟨T,Qy,HY⟩:=Dm (λ(V:G)=>Hl 1 om om V) Da.one (show(1:Int)≠0 by omega);go_wp2_with(first
     |(go_at_call 79;refine(Qm.o _).mono ?_;clear Qm;rintro e w6 ⟨dx,rfl,U,N⟩;have Qp:=Ja (D.o.below N);clear N;have Qz:=Ja U;clear U)
     |(go_at_call 79;refine(T.o _).mono ?_;clear T;rintro e w7 ⟨dh,rfl,S,q⟩;have Qv:=Ja (Qp.o.below q);have Qd:=Ja (Qz.o.below q);clear q;have Qq:=Ja S;clear S)
     |(go_at_call 80;refine(KG _ _ _ _ _ Qd.o Qq.o HY.o Uj.o Qy.o).mono ?_;rintro e w8 ⟨dt,rfl,p,P⟩;have O:=Qv.o.below P;clear P;obtain⟨di,ct,cn,dw,du,cj,ci,dz,rfl⟩:=Js.form p;have Ua:=Ja (O.put p);obtain⟨_,⟨x0,x1,x2,x3,x4,x5,x6,x7,a,_⟩,_,_⟩:=O;obtain⟨e0,e1,e2,Z⟩:=a.cq;obtain⟨g0,g1,g2,g3⟩:=a.fq;clear a p))
    go_meet
    case rel=>exact⟨rfl,_,_,_,_,Ja ⟨Ua.o,by have:=aY (A:=A) Uc.o Qw.o Us.o Ut.o (by rw[Qs.o];exact Uo.o.symm);rw[Qo.o,Qs.o,Uu.o]at this;exact this⟩⟩
   |true=>
    have Up:I2+1<=s.size:=by
     have M:=Uo.o.symm;rw[AM]at M;have h6:=JS M.2;rw[Qo.o,Ji]at h6;omega
    obtain⟨p2,bu⟩:=ex (DV (Je s) (I2+1));have Qr:=Ja (λ(V:G) (f:DZ V R s ((I2+1:Nat):Int) d g)=>OM R s (I2+1) d g p2 V f Up hs bu);have Wd:=Ja bu;clear bu;obtain⟨E2,bh⟩:=ex (EM (JY (Je s) (I2+1)) d);obtain⟨A2,hA2⟩:=ex (Eh (JY (Je s) (I2+1)) d g);rw[bh,hA2]at Qr;have We:=Ja bh;have Wh:=Ja hA2;clear bh hA2;go_upto_if 29 with(first
     |(go_at_call 102;refine(Qr.o _ D.o.1).mono ?_;clear Qr;rintro e w5 ⟨d2,n2,rfl,dj,bi,aj,ai⟩;have J:=Ja (D.o.rd aj ai);clear aj ai D;have Wi:=Ja dj;have Qr:=Ja bi;have Ug:=bi.lt12;clear dj bi))
    have Qt:=Ja (aZ (A:=A) Uc.o Qw.o Us.o Ut.o (by rw[Qs.o];exact Uo.o.symm) (by rw[Qo.o];exact Wd.o) Wi.o Qr.o E2 A2 (by rw[Qo.o,Qs.o];exact We.o.symm) (by rw[Qo.o,Qs.o,Uu.o];exact Wh.o.symm));by_cases ap:n2=0
    . have Wa:((n2:Int)==0)=true:=by rw[ap];rfl
      have Uk:=Ja ap;clear ap;obtain⟨HF,T,Qy,HY⟩:=EC (λ(V:G) (f:DZ V R s ((p2+d2:Nat):Int) E2 A2)=>It R s ((p2+d2:Nat):Int) E2 A2 4 (p2:Int) V f) (λ(V:G)=>Hl 1 om om V) Da.one (show(1:Int)≠0 by omega);go_wp2_with(first
       |(go_at_call 66;refine(HF.o _ J.o.1).mono ?_;clear HF;rintro e f8 ⟨rfl,ae,ad⟩;have Qi:=Ja (J.o.rd ae ad);clear ae ad J)
       |(go_at_call 79;refine(Qm.o _).mono ?_;clear Qm;rintro e w6 ⟨dx,rfl,U,N⟩;have Qp:=Ja (Qi.o.below N);clear N;have Qz:=Ja U;clear U)
       |(go_at_call 79;refine(T.o _).mono ?_;clear T;rintro e w7 ⟨dh,rfl,S,q⟩;have Qv:=Ja (Qp.o.below q);have Qd:=Ja (Qz.o.below q);clear q;have Qq:=Ja S;clear S)
       |(go_at_call 80;refine(KG _ _ _ _ _ Qd.o Qq.o HY.o Uj.o Qy.o).mono ?_;rintro e w8 ⟨dt,rfl,p,P⟩;have O:=Qv.o.below P;clear P;obtain⟨di,ct,cn,dw,du,cj,ci,dz,rfl⟩:=Js.form p;have Ua:=Ja (O.put p);obtain⟨_,⟨x0,x1,x2,x3,x4,x5,x6,x7,a,_⟩,_,_⟩:=O;obtain⟨e0,e1,e2,Z⟩:=a.cq;obtain⟨g0,g1,g2,g3⟩:=a.fq;clear a p))
      go_meet
      case rel=>exact⟨rfl,_,_,_,_,Ja ⟨Ua.o,Qt.o.1 Uk.o⟩⟩
    . have Wa:((n2:Int)==0)=false:=by rw[BH];omega
      obtain⟨T,Qy,HY⟩:=Dm (λ(V:G)=>Hl (n2:Int) om om V) (Da.word Ug) (show(n2:Int)≠0 by omega);go_wp2_with(first
       |(go_at_call 79;refine(Qm.o _).mono ?_;clear Qm;rintro e w6 ⟨dx,rfl,U,N⟩;have Qp:=Ja (J.o.below N);clear N;have Qz:=Ja U;clear U)
       |(go_at_call 79;refine(T.o _).mono ?_;clear T;rintro e w7 ⟨dh,rfl,S,q⟩;have Qv:=Ja (Qp.o.below q);have Qd:=Ja (Qz.o.below q);clear q;have Qq:=Ja S;clear S)
       |(go_at_call 80;refine(KG _ _ _ _ _ Qd.o Qq.o HY.o Uj.o Qy.o).mono ?_;rintro e w8 ⟨dt,rfl,p,P⟩;have O:=Qv.o.below P;clear P;obtain⟨di,ct,cn,dw,du,cj,ci,dz,rfl⟩:=Js.form p;have Ua:=Ja (O.put p);obtain⟨_,⟨x0,x1,x2,x3,x4,x5,x6,x7,a,_⟩,_,_⟩:=O;obtain⟨e0,e1,e2,Z⟩:=a.cq;obtain⟨g0,g1,g2,g3⟩:=a.fq;clear a p))
      go_meet
      case rel=>exact⟨rfl,_,_,_,_,Ja ⟨Ua.o,Qt.o.2 ap⟩⟩
 case rest=>
  obtain⟨rfl,c,L,d,g,z⟩:=hcut;have Ux:L<=s.size:=by have:=z.o.2.2.2.2.1;rwa[Ji]at this
  obtain⟨b3,bf⟩:∃b,b=(decide (d=0)&&JO (Je s) (DV (Je s) L) 120):=⟨_,rfl⟩;have Ud:=Ja bf.symm;obtain⟨I3,aw⟩:=ex (DV (Je s) L);have X:=Ja (λ(V:G) (f:DZ V R s (L:Int) d g)=>J8 R s L d g 120 V f Ux hs b3 bf);rw[aw]at X;have Ue:I3<=s.size:=by rw[<-aw,<-Ji];exact Ys (by rw[Ji];exact Ux)
  have K:=Ja aw;clear aw bf Qu Uc;go_upto_if 40 with(first
   |(go_at_call 61;refine(X.o _ z.o.1.1).mono ?_;clear X;rintro e w3 ⟨rfl,ak,ah⟩;have Q:=Ja (z.o.1.rd ak ah);clear ak ah))
  cases b3 with
  |false=>
   obtain⟨_,⟨y0,y1,y2,y3,y4,y5,y6,y7,a,y⟩,_,_⟩:=Q.o;obtain⟨e0,e1,e2,Z⟩:=a.cq;have l:=Ja (K4 _ 0 c _ y om);clear a y;go_wp2_with(first
    |(go_at_call 78;refine l.o.mono ?_;clear l;rintro e w9 ⟨u9,rfl,x,o⟩;have j:=Ja (Q.o.below o);clear o;have m:=Ja x;clear x;obtain⟨a7,l7,c7,rfl⟩:=m.o.form))
   go_ret;have i:=ar z.o.2 Ud.o;refine⟨_,c,0,_,rfl,m.o,om,z.o.2.2.2.1,by rw[K.o];exact Ue,?_,i.2.2,j.o.2.2.1⟩;rw[<-i.1,<-i.2.1];rw[K.o];exact j.o.1
  |true=>
   have Ub:I3+1<=s.size:=by
    have M:=Ud.o;rw[AM]at M;have h6:=JS M.2;rw[K.o,Ji]at h6;omega
   obtain⟨b4,bk⟩:∃b,b=(decide (d=0)&&JO (Je s) (DV (Je s) (I3+1)) 94):=⟨_,rfl⟩;have Ul:=Ja bk.symm;obtain⟨W,aq⟩:=ex (DV (Je s) (I3+1));have X:=Ja (λ(V:G) (f:DZ V R s ((I3+1:Nat):Int) d g)=>J8 R s (I3+1) d g 94 V f Ub hs b4 bk);rw[aq]at X;have Uf:W<=s.size:=by rw[<-aq,<-Ji];exact Ys (by rw[Ji];exact Ub)
   have Qn:=Ja aq;clear aq bk;go_upto_if 45 with(first
    |(go_at_call 61;refine(X.o _ Q.o.1).mono ?_;clear X;rintro e w4 ⟨rfl,af,am⟩;have D:=Ja (Q.o.rd af am);clear af am))
   cases b4 with
   |false=>
    obtain⟨_,⟨y0,y1,y2,y3,y4,y5,y6,y7,a,y⟩,_,_⟩:=D.o;obtain⟨e0,e1,e2,Z⟩:=a.cq;have l:=Ja (K4 _ 1 c _ y om);clear a y;go_wp2_with(first
     |(go_at_call 78;refine l.o.mono ?_;clear l;rintro e w9 ⟨u9,rfl,x,o⟩;have j:=Ja (D.o.below o);clear o;have m:=Ja x;clear x;obtain⟨a7,l7,c7,rfl⟩:=m.o.form))
    go_ret;have i:=bA z.o.2 Ud.o (by rw[K.o];exact Ul.o);refine⟨_,c,1,_,rfl,m.o,om,z.o.2.2.2.1,by rw[K.o,Qn.o];exact Uf,?_,i.2.2,j.o.2.2.1⟩;rw[<-i.1,<-i.2.1];rw[K.o,Qn.o];exact j.o.1
   |true=>
    have Uq:W+1<=s.size:=by
     have M:=Ul.o;rw[AM]at M;have h6:=JS M.2;rw[Qn.o,Ji]at h6;omega
    obtain⟨Y,bm⟩:=ex (DV (Je s) (W+1));have Qx:=Ja (λ(V:G) (f:DZ V R s ((W+1:Nat):Int) d g)=>OM R s (W+1) d g Y V f Uq hs bm);have Uy:=Ja bm;clear bm;obtain⟨E5,bc⟩:=ex (EM (JY (Je s) (W+1)) d);obtain⟨A5,hA5⟩:=ex (Eh (JY (Je s) (W+1)) d g);rw[bc,hA5]at Qx;have Wg:=Ja bc;have Wb:=Ja hA5;clear bc hA5;go_upto_if 54 with(first
     |(go_at_call 102;refine(Qx.o _ D.o.1).mono ?_;clear Qx;rintro e w5 ⟨d5,n5,rfl,co,ay,aj,ai⟩;have J:=Ja (D.o.rd aj ai);clear aj ai D;have Uz:=Ja co;have Qx:=Ja ay;have fb:=ay.lt12;have Uw:Y+d5<=s.size:=(by rw[<-Ji];exact ay.1);clear co ay))
    have Qt:=Ja (bB z.o.2 Ud.o (by rw[K.o];exact Ul.o) (by rw[K.o,Qn.o];exact Uy.o) Uz.o Qx.o E5 A5 (by rw[K.o,Qn.o];exact Wg.o.symm) (by rw[K.o,Qn.o];exact Wb.o.symm));by_cases h8:8<n5
    . have et:(8:Int)<(n5:Int):=om
      have HF:=Ja (λ(V:G) (f:DZ V R s ((Y+d5:Nat):Int) E5 A5)=>It R s ((Y+d5:Nat):Int) E5 A5 3 (Y:Int) V f);go_upto_region 21 with(first
       |(go_at_call 66;refine(HF.o _ J.o.1).mono ?_;clear HF;rintro e f8 ⟨rfl,ae,ad⟩;have Qi:=Ja (J.o.rd ae ad);clear ae ad J))
      obtain⟨_,⟨y0,y1,y2,y3,y4,y5,y6,y7,a,y⟩,_,_⟩:=Qi.o;obtain⟨e0,e1,e2,Z⟩:=a.cq;have l:=Ja (K4 _ 0 c _ y om);clear a y;go_wp2_with(first
       |(go_at_call 78;refine l.o.mono ?_;clear l;rintro e w9 ⟨u9,rfl,x,o⟩;have j:=Ja (Qi.o.below o);clear o;have m:=Ja x;clear x;obtain⟨a7,l7,c7,rfl⟩:=m.o.form))
      go_ret;have i:=Qt.o.1 h8;refine⟨_,c,0,Y+d5,rfl,m.o,om,z.o.2.2.2.1,Uw,?_,i.2.2,j.o.2.2.1⟩;rw[<-i.1,<-i.2.1];exact j.o.1
    . have et:¬(8:Int)<(n5:Int):=om
      obtain⟨_,⟨y0,y1,y2,y3,y4,y5,y6,y7,a,y⟩,_,_⟩:=J.o;obtain⟨e0,e1,e2,Z⟩:=a.cq;have l:=Ja (K4 _ n5 c _ y om);clear a y;go_wp2_with(first
       |(go_at_call 78;refine l.o.mono ?_;clear l;rintro e w9 ⟨u9,rfl,x,o⟩;have j:=Ja (J.o.below o);clear o;have m:=Ja x;clear x;obtain⟨a7,l7,c7,rfl⟩:=m.o.form))
      go_ret;have i:=Qt.o.2 h8;refine⟨_,c,n5,Y+d5,rfl,m.o,om,z.o.2.2.2.1,Uw,?_,i.2.2,j.o.2.2.1⟩;rw[<-i.1,<-i.2.1];exact j.o.1

