import Derived.Test.YtakpoihdghihmaaGreatDoorC47
open Go.Value renaming slice->E,bool->C,pointer->H,int->P
open Go renaming World->F,Value->G,Calls->Q,Boxed->D
open Go.Proofs.Tryz renaming prog->I
open Go.Obj renaming cells->M
set_option maxRecDepth 100000
set_option maxHeartbeats 16000000
namespace Go.Proofs.YtakpoihdghihmaaGreatDoor
attribute [local go_sem] Oper.semAt_some
namespace M3
open Go.RowKit Go.Shelf
theorem lE(l:List Int)(s:Int):l.map GF++[GF s]=(l++[s]).map GF:=by rw[List.map_append];rfl
theorem MK{w W:F}{c:G}{l:List Int}(f:Yq 3 w.heap.size W c (l.map GF))(d:Bl w W)(s:Int)(hl:l.length+1<=1099511627776):
 ∃x y z a,(Builtin.append_ #[43,43] 43 #[c,E (some ⟨W.heap.size,0,none⟩) 1 1]).run I (W.alloc (M #[P .i64 s] 3))=.ok (E x y z) a/\Yq 3 w.heap.size a (E x y z) ((l++[s]).map GF)/\Bl w a:=by
 obtain⟨j,a,e,b,far,bel,i,g⟩:=PK dN w.heap.size W c _ f (x:=GF s) rfl (by rw[Cs];exact hl) d.size;obtain⟨x,z,rfl,_⟩:=b.form;rw[lE]at e b;exact⟨x,_,z,a,e,b,bel _ _ (Aa _) d⟩
theorem E0.cell{W:F}{v:G}{cs:List G}{L:List (List Rat)}{base:Nat}(h:Yq 29 base W v cs)(b:E0 W cs L){j:Nat}(d:j<L.length):∃g cap a l c,v=E (some ⟨g,0,none⟩) L.length cap/\g<W.heap.size/\W.cell? ⟨g,j,none⟩=some (E a l c)/\RowK false W (E a l c) L[j]:=by
 obtain⟨g,cap,rfl,_,i,k⟩:=h.cell (j:=j) (by rw[b.1];exact d);obtain⟨x,e,f⟩:=b.2 j L[j] (Af d);obtain⟨a,l,c,rfl⟩:=f.form;refine⟨g,cap,a,l,c,by rw[b.1],i,?_,f⟩;rw[k];rw[Af (by rw[b.1];exact d)]at e;exact e
def MN(_:F):Prop:=True
theorem MN.below{V V':F}(_:MN V)(_:Bl V V'):MN V':=trivial
def Gm(d:Bool)(a V:F)(t:G):Prop:=Bl a V/\(d=true->∃B,t=H (some ⟨B,0,none⟩)/\JF V B 47 (E none 0 0) (C false) (E none 0 0) (C false)/\a.heap.size<=B)
theorem Gm.below{d:Bool}{a V V':F}{t:G}(h:Gm d a V t)(b:Bl V V'):Gm d a V' t:=⟨Bt h.1 b,λe=>by obtain⟨B,c,f,g⟩:=h.2 e;exact⟨B,c,f.below b,g⟩⟩
theorem Gm.alloc{a V:F}{t:G}(h:Gm false a V t):Gm true a (V.alloc (M #[E none 0 0,C false,E none 0 0,C false] 47)) (H (some ⟨V.heap.size,0,none⟩)):=⟨h.1.trans ((Ba V _).mono h.1.size),λ_=>⟨_,rfl,JF.new _ _ _ _ _ _,h.1.size⟩⟩
def MO(f V:F)(t:G)(q:Rat):Prop:=∃B a l c s b k d e,t=H (some ⟨B,0,none⟩)/\JF V B 47 (E a l c) (C s) (E b k d) (C e)/\Jl V (.agg #[E a l c,C s,E b k d,C e]) q/\Bl f V
theorem MO.below{g V V':F}{t:G}{q:Rat}(h:MO g V t q)(f:Bl V V'):MO g V' t q:=by
 obtain⟨B,a,l,c,s,b,k,d,n,e,i,j,m⟩:=h;exact⟨B,a,l,c,s,b,k,d,n,e,i.below f,j.below f,Bt m f⟩
theorem QN(v vx:G)(L:List (List Rat))(x:Rat)(cs:List G)(base:Nat)(w:F)(A:Yq 29 base w v cs)(R:E0 w cs L)(hx:Jl w vx x)(ax:Sq x)(hL:∀p∈L,Da p/\Iv p x)(hl:L.length<=1000000):
 Q I 52 #[v,vx] w λe w'=>e=.returned (P .i64 (XW (L.map λp=>De (ev p x)):Int))/\Bl w w':=by
 have Qs:Tryz.prog.follows .mixedOrders=true:=by kernel_rfl
 obtain⟨a9,c9,rfl,k1,k2⟩:=A.form;rw[R.1];obtain⟨W,xl,xc,xs,X,xk,xd,xt,rfl⟩:=Jl.form hx;obtain⟨len,aj⟩:=ex (L.length);rw[aj];have bk:(len:Int)<=1000000:=O
 have S:Bl w (w.alloc (M #[E W xl xc,C xs,E X xk xd,C xt] 47)):=Ba w _;have n1:=JF.new w 47 (E W xl xc) (C xs) (E X xk xd) (C xt);obtain⟨t,ah⟩:=ex (w.alloc (M #[E W xl xc,C xs,E X xk xd,C xt] 47));rw[ah]at S n1;obtain⟨Qn,B,HN⟩:=Df ah S n1;have Qq:=Y (show ∀k (hk:k<len),∃g a l c,a9=some ⟨g,0,none⟩/\g<w.heap.size/\w.cell? ⟨g,k,none⟩=some (E a l c)/\RowK false w (E a l c) (L.getD k [])from λk hk=>by
  obtain⟨g,cap,a,l,c,e,h3,h4,h5⟩:=E0.cell A R (j:=k) O;have e2:a9=some ⟨g,0,none⟩:=by injection e
  exact⟨g,a,l,c,e2,h3,h4,by rw[show L.getD k []=L[k]'(by omega)by simp[List.getD,show k<L.length by omega]];exact h5⟩)
 have Qk:=Y (λ(V:F) (k:Nat) (hk:k<len) (y z:G) (hy:RowK false V y (L.getD k [])) (hz:Jl V z x)=>show Q I 113 #[y,z] V λe w'=>∃u,e=.returned u/\Jl w' u (ev (L.getD k []) x)/\Bl V w' by
  have hm:L.getD k []∈L:=by
   rw[show L.getD k []=L[k]'(by omega)by simp[List.getD,show k<L.length by omega]];exact CU _
  exact fZ y z _ x V hy hz (hL _ hm).1 ax (hL _ hm).2)
 have Qp:=Y λ(V:F) (o:Bl w V)=>hx.below o;have Qh:=Y λ(V:F) (u:G) (h:Yq 3 t.heap.size V u ((L.map λp=>De (ev p x)).map GF))=>PN (L.map λp=>De (ev p x)) u t.heap.size V h (λs hs=>by obtain⟨p,_,rfl⟩:=CJ.1 hs;exact Hj _) (by rw[Cs];exact hl);obtain⟨N,hN⟩:=ex (XW (L.map λp=>De (ev p x)));rw[hN]at Qh ⊢;have Qj:=Y aj;clear A R hx ax hL hl aj k1 k2 S n1 ah hN;go_enter Tryz.func52,Tryz.ntmps52
 go_upto_region 1 with fail
 rw[Qn.o];clear Qn;go_wp2;go_loopw [5,6] (λsv iv wr=>∃(k:Nat) (a:Option Addr) (l c:Nat),k<=len/\iv=P .i64 (k:Int)/\sv=E a l c/\Hid (Yq 3 t.heap.size wr (E a l c) (((L.take k).map λp=>De (ev p x)).map GF)/\Bl t wr)) λ_ iv _=>len-(intOf iv).toNat
 case atStart=>exact⟨0,_,_,_,Az _,rfl,rfl,Y ⟨Yq.nil _ _ _,BA _ _⟩⟩
 case round=>
  obtain⟨k,a,l,c,hk,rfl,rfl,n⟩:=hrel;by_cases ap:k<len
  . have bl:(k:Int)<(len:Int):=O
    obtain⟨g,ya,yl,yc,rfl,hg,hc,hr⟩:=Qq.o k ap;have Qf:=Y (λ(V:F) (o:Bl wr V)=>show V.cell? ⟨g,k,none⟩=some (E ya yl yc)/\RowK false V (E ya yl yc) (L.getD k [])by
     have A:=B.o.trans ((Bt n.o.2 o).mono B.o.size);exact⟨(A.cell (p:=⟨g,k,none⟩) hg).trans hc,hr.below A⟩)
    obtain⟨Ql,Qd,Qc⟩:=Df (λ(V:F) (o:Bl wr V)=>(HN.o.below n.o.2).below o) (λ(V:F) (o:Bl wr V)=>Qp.o V (B.o.trans ((Bt n.o.2 o).mono B.o.size))) λ(V:F)=>Qk.o V k ap;have Qm:=Y (show(L.take (k+1)).map (λp=>De (ev p x))=(L.take k).map (λp=>De (ev p x))++[De (ev (L.getD k []) x)]from by
     have Qi:k<L.length:=by have:=Qj.o;omega
     rw[<-List.take_append_getElem Qi,List.map_append];simp[List.getD,Qi])
    have Qr:=Y (show((L.take k).map λp=>De (ev p x)).length+1<=1099511627776 from by rw[Cs,Ak];omega);obtain⟨q,aq⟩:=ex (L.getD k []);rw[aq]at Qf Qc Qm;clear aq hc hr hg;go_upto_region 5 with fail
    have Qo:Gm false wr wr.drew u7:=⟨(BA _ wr).drew,λe=>by cases e⟩;refine Jr Qs [[],[],[0,1],[2],[],[3,4],[],[6,5,5,0,1,2,3,4,5,6]] (by kernel_rfl) DO
     (λD af V=>∃(ta tb tc td te tg U:G),af={ tmps:=#[E (some ⟨g,0,none⟩) len c9,.agg #[E W xl xc,C xs,E X xk xd,C xt],undef,H (some ⟨w.heap.size,0,none⟩),P .i64 0,E a l c,P .i64 (k:Int),U,P .i64 (k:Int),E (some ⟨g,0,none⟩) len c9,P .i64 (len:Int),C true,u12,u13,ta,tb,tc,td,te,tg,u20,u21,u22,u23,u24,undef,undef],defers:=[] }/\Hid ((D 0=true->ta=E (some ⟨g,0,none⟩) len c9)/\(D 1=true->tb=P .i64 (k:Int))/\(D 2=true->tc=H (some ⟨g,k,none⟩))/\(D 3=true->td=E ya yl yc)/\(D 4=true->te=.agg #[E W xl xc,C xs,E X xk xd,C xt])/\(D 5=true->D 7=false->Jl V tg (ev q x))/\(D 6=true->MN V))/\Hid ((D 7=false->Gm (D 6) wr V U)/\(D 7=true->MO wr V U (ev q x))))
     ⟨_,_,_,_,_,_,_,rfl,Y Z,Y ⟨λ_=>Qo,Z⟩⟩ ?step1 ?fin1
    case step1=>
     rintro D af V i ds ae hi f r ⟨ta,tb,tc,td,te,tg,U,rfl,b,d⟩;have bj:i<8:=(Ad.1 hi).1;obtain rfl|rfl|rfl|rfl|rfl|rfl|rfl|rfl:=OG i O
     all_goals
      simp only[Aj,Ag,An]at hi;subst hi
     . clear f;refine DT ?_;exact⟨(Dm b),d⟩
     . clear f;refine DT ?_;exact⟨(Ds b),d⟩
     . obtain rfl:=b.o.1 (f 0 Z);obtain rfl:=b.o.2.1 (f 1 Z);clear f;refine DT ?_;exact⟨(Dj (Ds (Dm b))),d⟩
     . have m:=d.o.1 (DP ae r);obtain rfl:=b.o.2.2.1 (f 2 Z);have eC:=(Qf.o V m.1).1;clear f;refine DT ?_;exact⟨(Dn (Dj b)),d⟩
     . have m:=d.o.1 (DP ae r);have nX:=Ql.o V m.1;obtain⟨x0,x1,x2,x3⟩:=nX.cq;clear f;refine DT ?_;exact⟨(D3 b),d⟩
     . have m:=d.o.1 (DP ae r);obtain rfl:=b.o.2.2.2.1 (f 3 Z);obtain rfl:=b.o.2.2.2.2.1 (f 4 Z);clear f;have HC:=Y (Qc.o V _ _ (Qf.o V m.1).2 (Qd.o V m.1));refine Jb rfl rfl λK hK=>?_;go_simp;go_wp2_with(go_at_call 113;refine HC.o.mono ?_;rintro e w5 ⟨v5,rfl,bc,ai⟩)
       exact⟨_,_,_,_,_,_,_,rfl,Y ⟨b.o.1,b.o.2.1,b.o.2.2.1,λ_=>rfl,λ_=>rfl,λ_ _=>bc,λh=>(b.o.2.2.2.2.2.2 h).below ai⟩,Y ⟨λh=>(d.o.1 h).below ai,λh=>(d.o.2 h).below ai⟩⟩
     . have Qa:D 7=false:=DP ae r;have m:=d.o.1 Qa;clear f;refine DT ?_;obtain⟨G0,G1,G2,G3,G4,G5,_⟩:=b.o;exact⟨Y ⟨G0,G1,G2,G3,G4,λh R=>(G5 h R).below (Ba V _),λ_=>trivial⟩,Y ⟨λ_=>(show Gm true wr _ _ from Gm.alloc (by rw[r]at m;exact m)),λh=>by simp[Qa]at h⟩⟩
     . have m:=d.o.1 r;have h0:=Dp b (f 5 Z) r;obtain⟨S,ay⟩:=m;obtain⟨Bf,rfl,ad,az⟩:=ay (f 6 Z);obtain⟨a9,l9,c9,s9,b9,k9,d9,t9,rfl⟩:=Jl.form h0;obtain⟨e0,e1,e2,e3⟩:=ad.cq;obtain⟨f0,f1,f2,f3⟩:=ad.fq;clear f;refine DT ?_;exact⟨(Lp (D4 b λ_ h=>by simp at h) λ_=>trivial),Y ⟨λh=>by simp at h,λ_=>⟨Bf,_,_,_,_,_,_,_,_,rfl,ad.put _ _ _ _,h0.put4 ad rfl rfl rfl rfl _ _ _ _,Jo S az _ _ _ _⟩⟩⟩
    case fin1=>
     rintro D af V5 am ⟨ta,tb,tc,td,te,tg,U,rfl,b,d⟩;obtain⟨BV,a9,l9,bi,s9,b9,k9,d9,t9,rfl,nV,rV,hV⟩:=d.o.2 (am 7 DO);clear b d am;obtain⟨e0,e1,e2,e3⟩:=nV.cq;have Qg:=Y (L0 _ (ev q x) V5 rV);rw[show(ev q x).num.sign=De (ev q x)from rfl]at Qg;have Qe:=Y (show Yq 3 t.heap.size V5 (E a l c) (((L.take k).map λp=>De (ev p x)).map GF)/\Bl t V5 from⟨n.o.1.below hV,Bt n.o.2 hV⟩);clear nV rV hV n Qf Ql Qd Qc Qk;go_wp2_with(first
      |(go_at_call 58;refine Qg.o.mono ?_;clear Qg;rintro e w6 ⟨rfl,T⟩;clear e0 e1 e2 e3;obtain⟨bf,bg,bh,w9,aw,ak,an⟩:=MK (Qe.o.1.below T) (Bt Qe.o.2 T) (De (ev q x)) Qr.o)
      |(at_builtin;refine BU _ rfl _ _ 43 43 rfl _ _ rfl rfl _ _ aw ?_;clear aw))
     rw[<-Qm.o]at ak;have Qt:=Y (And.intro ak an);clear ak an T Qe;go_roundw
     case rel=>exact⟨k+1,bf,bg,bh,O,by go_num,rfl,Qt⟩
     case measure=>simp[intOf];omega
  . obtain rfl:k=len:=O
    have HC:=Y (Qh.o wr _ (by have h:=n.o.1;rw[<-Qj.o,FO]at h;exact h));have HB:=Y (Bt B.o n.o.2);clear n Qh;go_wp2_with(go_at_call 59;refine HC.o.mono ?_;clear HC;rintro e w6 ⟨rfl,T⟩)
    go_ret;exact⟨rfl,Bt HB.o T⟩
def EL(a:Bool)(p:List Rat):Int:=match a with|true=>F8 p|false=>Ej p
theorem OC(a:Bool)(p:List Rat):-1<=EL a p/\EL a p<=1:=by
 have:=Hj (cf p (p.length-1));cases a with
 |true=>
  show -1<=F8 p/\F8 p<=1;unfold F8 Ej;split<;>omega
 |false=>exact this
theorem QO(v:G)(r:Bool)(L:List (List Rat))(cs:List G)(base:Nat)(w:F)(B:Yq 29 base w v cs)(h2:E0 w cs L)(hL:∀p∈L,p≠[])(hl:L.length<=1000000):
 Q I 50 #[v,C r] w λe w'=>e=.returned (P .i64 (XW (L.map (EL r)):Int))/\Bl w w':=by
 have Qp:Tryz.prog.follows .mixedOrders=true:=by kernel_rfl
 obtain⟨a9,c9,rfl,k1,k2⟩:=B.form;rw[h2.1];obtain⟨len,ak⟩:=ex (L.length);rw[ak];have bm:(len:Int)<=1000000:=O
 have Qn:=Y (show ∀k (hk:k<len),∃g a l c,a9=some ⟨g,0,none⟩/\g<w.heap.size/\w.cell? ⟨g,k,none⟩=some (E a l c)/\RowK false w (E a l c) (L.getD k [])/\L.getD k []≠[]from λk hk=>by
  obtain⟨g,cap,a,l,c,e,h3,h4,h5⟩:=E0.cell B h2 (j:=k) O;have e2:a9=some ⟨g,0,none⟩:=by injection e
  rw[show L.getD k []=L[k]'(by omega)by simp[List.getD,show k<L.length by omega]];exact⟨g,a,l,c,e2,h3,h4,h5,hL _ (CU _)⟩)
 have Qk:=Y λ(V:F) (u:G) (h:Yq 3 w.heap.size V u ((L.map (EL r)).map GF))=>PN (L.map (EL r)) u w.heap.size V h (λs hs=>by obtain⟨p,_,rfl⟩:=CJ.1 hs;exact OC r p) (by rw[Cs];exact hl);obtain⟨N,hN⟩:=ex (XW (L.map (EL r)));rw[hN]at Qk ⊢;have Qm:=Y ak;clear B h2 hL hl ak k1 k2 hN;go_enter Tryz.func50,Tryz.ntmps50
 go_wp2;go_loopw [5,6] (λsv iv wr=>∃(k:Nat) (a:Option Addr) (l c:Nat),k<=len/\iv=P .i64 (k:Int)/\sv=E a l c/\Hid (Yq 3 w.heap.size wr (E a l c) (((L.take k).map (EL r)).map GF)/\Bl w wr)) λ_ iv _=>len-(intOf iv).toNat
 case atStart=>exact⟨0,_,_,_,Az _,rfl,rfl,Y ⟨Yq.nil _ _ _,BA _ _⟩⟩
 case round=>
  obtain⟨k,a,l,c,hk,rfl,rfl,W⟩:=hrel;by_cases bk:k<len
  . have bt:(k:Int)<(len:Int):=O
    obtain⟨g,ya,z,yc,rfl,hg,hc,hr,am⟩:=Qn.o k bk;have X:=Y (show(L.take (k+1)).map (EL r)=(L.take k).map (EL r)++[EL r (L.getD k [])]from by
     have Ql:k<L.length:=by have:=Qm.o;omega
     rw[<-List.take_append_getElem Ql,List.map_append];simp[List.getD,Ql])
    have Qj:=Y (show((L.take k).map (EL r)).length+1<=1099511627776 from by rw[Cs,Ak];omega);obtain⟨q,bf⟩:=ex (L.getD k []);rw[bf]at hr am X;obtain⟨bc,bi,bj,bn,s,t,aa,bb,ll,cc,kk,dd,ay⟩:=hr.formsF;have Qs:=Ae.2 am;obtain⟨m,hm⟩:=ex (z-1:Nat);have bu:(z:Int)-1=(m:Int):=O
    have ce:IntKind.i64.wrap (m:Int)=(m:Int):=by rw[BL];omega
    have ci:(m:Int)<(z:Int):=O
    obtain⟨az,x,rfl,K,an,ap,aq,aw⟩:=ay m O;have Qh:=Y (λ(V:F) (hB:Bl wr V)=>show V.cell? ⟨g,k,none⟩=some (E (some ⟨x,0,none⟩) z yc)/\(V.cell? ⟨x,m*4,none⟩=some (E (aa m) (ll m) (cc m))/\V.cell? ⟨x,m*4+1,none⟩=some (C (s m))/\V.cell? ⟨x,m*4+2,none⟩=some (E (bb m) (kk m) (dd m))/\V.cell? ⟨x,m*4+3,none⟩=some (C (t m)))/\Jl V (.agg #[E (aa m) (ll m) (cc m),C (s m),E (bb m) (kk m) (dd m),C (t m)]) (cf q m)by
     have B:=Bt W.o.2 hB;exact⟨(B.cell (p:=⟨g,k,none⟩) hg).trans hc,⟨(B.cell (p:=⟨x,_,none⟩) K).trans an,(B.cell (p:=⟨x,_,none⟩) K).trans ap,(B.cell (p:=⟨x,_,none⟩) K).trans aq,(B.cell (p:=⟨x,_,none⟩) K).trans aw⟩,az.below B⟩)
    have Qf:=Y (show Ej q=De (cf q m)/\(F8 q=if z%2=0 then -De (cf q m)else De (cf q m))from by
     have e:q.length-1=m:=O
     unfold F8 Ej;rw[e,<-bc];exact⟨rfl,rfl⟩)
    have Qq:=Hj (cf q m);clear bf hc hr hg am ay az K an ap aq aw bc bi bj Qs hm Qn;go_upto_region 5 with fail
    have Qo:Gm false wr wr.drew u7:=⟨(BA _ wr).drew,λe=>by cases e⟩;refine Jr Qp [[],[],[0,1],[2],[],[],[4,5],[6],[7],[8],[3,9],[10],[],[12,11,0,1,2,3,4,5,6,7,8,9,10,11,12]] (by kernel_rfl) DO
     (λD aj V=>∃(ta tb tc td te tg ti tj tk tl tm tn tp:G),aj={ tmps:=#[E (some ⟨g,0,none⟩) len c9,C r,undef,undef,P .i64 0,E a l c,P .i64 (k:Int),tp,u8,P .i64 (k:Int),E (some ⟨g,0,none⟩) len c9,P .i64 (len:Int),C true,u13,u14,ta,tb,tc,td,te,tg,ti,tj,tk,tl,tm,tn,u27,u28,u29,u30,u31,u32,u33,u34,u35,u36,u37,u38,u39,u40,u41,u42,u43,u44,undef,undef],defers:=[] }/\Hid ((D 0=true->ta=E (some ⟨g,0,none⟩) len c9)/\(D 1=true->tb=P .i64 (k:Int))/\(D 2=true->tc=H (some ⟨g,k,none⟩))/\(D 3=true->td=E (some ⟨x,0,none⟩) z yc)/\(D 4=true->te=E (some ⟨g,0,none⟩) len c9)/\(D 5=true->tg=P .i64 (k:Int))/\(D 6=true->ti=H (some ⟨g,k,none⟩))/\(D 7=true->tj=E (some ⟨x,0,none⟩) z yc)/\(D 8=true->tk=P .i64 (z:Int))/\(D 9=true->tl=P .i64 (m:Int))/\(D 10=true->tm=H (some ⟨x,m*4,none⟩))/\(D 11=true->tn=.agg #[E (aa m) (ll m) (cc m),C (s m),E (bb m) (kk m) (dd m),C (t m)])/\(D 12=true->MN V))/\Hid ((D 13=false->Gm (D 12) wr V tp)/\(D 13=true->MO wr V tp (cf q m))))
     (E8 ⟨_,_,_,_,_,rfl,Y Z,Y ⟨λ_=>Qo,Z⟩⟩) ?step1 ?fin1
    case step1=>
     rintro D aj V i ds ai hi d ad ⟨ta,tb,tc,td,te,tg,ti,tj,tk,tl,tm,tn,tp,rfl,b,f⟩;have bl:i<14:=(Ad.1 hi).1;obtain rfl|rfl|rfl|rfl|rfl|rfl|rfl|rfl|rfl|rfl|rfl|rfl|rfl|rfl:=GL i O
     all_goals
      simp only[Aj,Ag,An]at hi;subst hi
     . clear d;refine DT ?_;exact⟨(Dm b),f⟩
     . clear d;refine DT ?_;exact⟨(Ds b),f⟩
     . obtain rfl:=b.o.1 (d 0 Z);obtain rfl:=b.o.2.1 (d 1 Z);clear d;refine DT ?_;exact⟨(Dj (Ds (Dm b))),f⟩
     . have A:=f.o.1 (DP ai ad);obtain rfl:=b.o.2.2.1 (d 2 Z);have eC:=(Qh.o V A.1).1;clear d;refine DT ?_;exact⟨(Dn (Dj b)),f⟩
     . clear d;refine DT ?_;exact⟨(D3 b),f⟩
     . clear d;refine DT ?_;exact⟨(D4 b),f⟩
     . obtain rfl:=b.o.2.2.2.2.1 (d 4 Z);obtain rfl:=Dp b (d 5 Z);clear d;refine DT ?_;exact⟨(ED (D4 (D3 b))),f⟩
     . have A:=f.o.1 (DP ai ad);obtain rfl:=Dw b (d 6 Z);have eC:=(Qh.o V A.1).1;clear d;refine DT ?_;exact⟨(ET (ED b)),f⟩
     . obtain rfl:=EA b (d 7 Z);clear d;refine DT ?_;exact⟨(EX (ET b)),f⟩
     . obtain rfl:=D8 b (d 8 Z);clear d;refine DT ?_;exact⟨(Ez (EX b)),f⟩
     . obtain rfl:=b.o.2.2.2.1 (d 3 Z);obtain rfl:=EE b (d 9 Z);clear d;refine DT ?_;exact⟨(D0 (Ez (Dn b))),f⟩
     . have A:=f.o.1 (DP ai ad);obtain rfl:=Dr b (d 10 Z);obtain⟨x0,x1,x2,x3⟩:=(Qh.o V A.1).2.1;clear d;refine DT ?_;exact⟨(D9 (D0 b)),f⟩
     . have Qa:D 13=false:=DP ai ad;have A:=f.o.1 Qa;clear d;refine DT ?_;exact⟨(Gr b λ_=>trivial),Y ⟨λ_=>(show Gm true wr _ _ from Gm.alloc (by rw[ad]at A;exact A)),λh=>by simp[Qa]at h⟩⟩
     . have A:=f.o.1 ad;obtain rfl:=Ex b (d 11 Z);obtain⟨hA,bg⟩:=A;obtain⟨Bf,rfl,K,bh⟩:=bg (d 12 Z);have h0:=(Qh.o V hA).2.2;obtain⟨e0,e1,e2,e3⟩:=K.cq;obtain⟨f0,f1,f2,f3⟩:=K.fq;clear d;refine DT ?_;exact⟨(Gr (D9 b) λ_=>trivial),Y ⟨λh=>by simp at h,λ_=>⟨Bf,_,_,_,_,_,_,_,_,rfl,K.put _ _ _ _,h0.put4 K rfl rfl rfl rfl _ _ _ _,Jo hA bh _ _ _ _⟩⟩⟩
    case fin1=>
     rintro D aj V5 ax ⟨ta,tb,tc,td,te,tg,ti,tj,tk,tl,tm,tn,tp,rfl,b,f⟩;obtain⟨BV,a8,l8,c8,s8,b8,k8,d8,t8,rfl,nV,rV,hV⟩:=f.o.2 (ax 13 DO);clear b f ax;obtain⟨e0,e1,e2,e3⟩:=nV.cq;have S:=Y (L0 _ (cf q m) V5 rV);rw[show(cf q m).num.sign=De (cf q m)from rfl]at S;have R:=Y (show Yq 3 w.heap.size V5 (E a l c) (((L.take k).map (EL r)).map GF)/\Bl w V5 from⟨W.o.1.below hV,Bt W.o.2 hV⟩);have Qg:=Y λ(V:F) (hB:Bl V5 V)=>(Qh.o V (Bt hV hB)).1;obtain⟨n,hn⟩:=ex (De (cf q m));rw[hn]at S Qf Qq;clear nV rV hV W Qh hn;cases r with
     |false=>
      rw[show EL false q=n from Qf.o.1]at X;clear Qf;go_wp2_with(first
       |(go_at_call 58;refine S.o.mono ?_;clear S;rintro e w6 ⟨rfl,o⟩;clear e0 e1 e2 e3;have eG:=Qg.o w6 o;clear Qg;obtain⟨ae,af,ah,w9,U,y,T⟩:=MK (R.o.1.below o) (Bt R.o.2 o) n Qj.o)
       |(at_builtin;refine BU _ rfl _ _ 43 43 rfl _ _ rfl rfl _ _ U ?_;clear U))
      rw[<-X.o]at y;have Qi:=Y (And.intro y T);clear y T o R;go_roundw
      case rel=>exact⟨k+1,ae,af,ah,O,by go_num,rfl,Qi⟩
      case measure=>simp[intOf];omega
     |true=>
      by_cases he:z%2=0
      . have Qr:(z:Int)%2=0:=O
        rw[show EL true q=-n from by show F8 q=-n;rw[Qf.o.2,BC he]]at X;clear Qf he;go_wp2_with(first
         |(go_at_call 58;refine S.o.mono ?_;clear S;rintro e w6 ⟨rfl,o⟩;clear e0 e1 e2 e3;have eG:=Qg.o w6 o;clear Qg;obtain⟨ae,af,ah,w9,U,y,T⟩:=MK (R.o.1.below o) (Bt R.o.2 o) (-n) Qj.o)
         |(at_builtin;refine BU _ rfl _ _ 43 43 rfl _ _ rfl rfl _ _ U ?_;clear U))
        rw[<-X.o]at y;have Qi:=Y (And.intro y T);clear y T o R;go_roundw
        case rel=>exact⟨k+1,ae,af,ah,O,by go_num,rfl,Qi⟩
        case measure=>simp[intOf];omega
      . have Qr:(z:Int)%2=1:=O
        rw[show EL true q=n from by show F8 q=n;rw[Qf.o.2,BB he]]at X;clear Qf he;go_wp2_with(first
         |(go_at_call 58;refine S.o.mono ?_;clear S;rintro e w6 ⟨rfl,o⟩;clear e0 e1 e2 e3;have eG:=Qg.o w6 o;clear Qg;obtain⟨ae,af,ah,w9,U,y,T⟩:=MK (R.o.1.below o) (Bt R.o.2 o) n Qj.o)
         |(at_builtin;refine BU _ rfl _ _ 43 43 rfl _ _ rfl rfl _ _ U ?_;clear U))
        rw[<-X.o]at y;have Qi:=Y (And.intro y T);clear y T o R;go_roundw
        case rel=>exact⟨k+1,ae,af,ah,O,by go_num,rfl,Qi⟩
        case measure=>simp[intOf];omega
  . obtain rfl:k=len:=O
    have HC:=Y (Qk.o wr _ (by have h:=W.o.1;rw[<-Qm.o,FO]at h;exact h));have HB:=Y W.o.2;clear W Qk;go_wp2_with(go_at_call 59;refine HC.o.mono ?_;clear HC;rintro e w6 ⟨rfl,o⟩)
    go_ret;exact⟨rfl,Bt HB.o o⟩
end M3
section
open Go.RowKit Go.Shelf
variable{A X:Nat}{x:Rat}
theorem VC(d:Db X x):∀l:List Rat,(∀i,Db A (cf l i))->Db (l.length*(A+X+1)+1) (ev l x):=by
 intro l;induction l with
 |nil=>intro _;exact Db.zero _ Z
 |cons c t e=>
  intro h;have b:=e (λi=>by have:=h (i+1);rwa[Ya]at this);have a:=h 0;rw[Y6]at a;rw[ev,Ai,AC];exact(a.add2 (d.mul2 b)).mono O
theorem VD{ps:List Rat}(b:Db X x)(hp:∀i,Db A (cf ps i))(d:ps.length*(A+X+1)+1+X<=1000000):M3.Iv ps x:=λn=>by
 have a:=VC b (ps.drop n) (λi=>by
  have e:cf (ps.drop n) i=cf ps (n+i):=by simp[cf]
  rw[e];exact hp _)
 have c:(ps.drop n).length*(A+X+1)<=ps.length*(A+X+1):=Ah _ (by rw[AR];omega);exact⟨Sq.of a O,Sq.of (a.mul2 b) O⟩
end
theorem VE(l:List (List Rat)):l.map Ej=(IC l).map De:=by simp[IC,Ej,Function.comp_def]
theorem lF(n:Nat):((-1:Rat))^n=if n%2=0 then 1 else -1:=by
 induction n with
 |zero=>rfl
 |succ n a=>
  rw[Rat.pow_succ,a];by_cases h:n%2=0
  . rw[BC h,BB O];grind
  . rw[BB h,BC O];grind
theorem VF(l:List (List Rat))(h:∀p∈l,p≠[]):l.map F8=(GV l).map De:=by
 unfold GV;rw[List.map_map];refine List.map_congr_left λp hp=>?_;have b:=Ae.2 (h p hp);show F8 p=De ((-1)^(p.length-1)*cf p (p.length-1));unfold F8 Ej;rw[lF];by_cases a:p.length%2=0
 . rw[BC a,BB O,<-dW];congr 1;grind
 . rw[BB a,BC O,CW]
namespace M3
open Go.RowKit Go.Shelf
def EY(V:F)(g n:Nat)(f:Nat->List Rat):Prop:=∃cs:Array G,V.heap[g]?=some (M cs 25 (0,0))/\∀j,j<n->∃a l c,cs[j]?=some (E a l c)/\RowK true V (E a l c) (f j)
variable{pb:Array G}{p q:List Rat}{K g j n pf:Nat}{f:Nat->List Rat}{v:G}{V:F}
theorem EY.lt(h:EY V g n f):g<V.heap.size:=by obtain⟨cs,h,_⟩:=h;exact(Ab.1 h).1
theorem EY.below{V V':F}{g n:Nat}{f:Nat->List Rat}(h:EY V g n f)(b:Bl V V'):EY V' g n f:=by
 have hl:=h.lt;obtain⟨cs,d,i⟩:=h;refine⟨cs,(b.block g hl).trans d,λj m=>?_⟩;obtain⟨a,l,c,e,k⟩:=i j m;exact⟨a,l,c,e,k.below b⟩
theorem EY.cell{V:F}{g n:Nat}{f:Nat->List Rat}(h:EY V g n f){j:Nat}(k:j<n):∃a l c,V.cell? ⟨g,j,none⟩=some (E a l c)/\RowK true V (E a l c) (f j):=by
 obtain⟨cs,b,d⟩:=h;obtain⟨a,l,c,e,i⟩:=d j k;exact⟨a,l,c,cell_of b e,i⟩
theorem EY.frozen{V:F}{g n:Nat}{f:Nat->List Rat}(h:EY V g n f)(o:Nat):V.frozen? ⟨g,o,none⟩=false:=by obtain⟨cs,a,_⟩:=h;simp[World.frozen?,a]
theorem EY.set(h:EY V g n f)(t:j<n){a:Option Addr}{l c:Nat}(x:RowK true V (E a l c) q):EY (V.setCell ⟨g,j,none⟩ (E a l c)) g n (λk=>if k=j then q else f k):=by
 obtain⟨cs,d,i⟩:=h;obtain⟨y,z,c0,b,_⟩:=i j t;have m:∀v qs,RowK true V v qs->RowK true (V.setCell ⟨g,j,none⟩ (E a l c)) v qs:=λv qs w=>XI d b rfl true DO _ v qs w;refine⟨cs.setIfInBounds j (E a l c),J2 d _,λk u=>?_⟩;have o:j<cs.size:=(Ab.1 b).1;by_cases e:k=j
 . subst e;refine⟨a,l,c,?_,?_⟩
   . rw[CC o]
   . show RowK true _ _ (if k=k then q else f k);rw[BC rfl];exact m _ _ x
 . obtain⟨p,l1,c1,r,s⟩:=i k u;refine⟨p,l1,c1,?_,?_⟩
   . rw[Al O];exact r
   . show RowK true _ _ (if k=j then q else f k);rw[BB e];exact m _ _ s
theorem EY.cong{a:Nat->List Rat}(h:EY V g n f)(e:∀j,j<n->f j=a j):EY V g n a:=by
 obtain⟨cs,c,d⟩:=h;refine⟨cs,c,λj b=>?_⟩;rw[<-e j b];exact d j b
theorem lG(r s:G)(p q:List Rat)(w:F)(m:Jh w r p)(o:Jh w s q):
 Q I 87 #[r,s] w λe i=>∃k l a c b d g f,e=.returned (.func (.func 136) #[] #[H (some ⟨k,0,none⟩),H (some ⟨l,0,none⟩)])/\Do i k a c b/\Do i l d g f/\Jh i (.agg #[E a c b]) p/\Jh i (.agg #[E d g f]) q/\Bl w i:=by
 obtain⟨a,c,b,rfl⟩:=m.form;obtain⟨d,g,f,rfl⟩:=o.form;refine((BI (n:=1)).1 (kB 1 a d c b g f w)).mono ?_;rintro e i ⟨rfl,rfl⟩;have j:Bl w ((w.alloc (M #[E a c b] 25)).alloc (M #[E d g f] 25)):=(Ba w _).alloc (by rw[Ax];omega) _;refine⟨_,_,a,c,b,d,g,f,rfl,(BG w 25 (E a c b)).alloc _,?_,m.below j,o.below j,j⟩;have:=BG (w.alloc (M #[E a c b] 25)) 25 (E d g f);rwa[Ax]at this
theorem lH(K:Nat)(a b:Nat)(f j:Option Addr)(i g l k:Nat)(p q:List Rat)(w:F)(u:ChOk K p q)(s:Do w a f i g)(t:Do w b j l k)(x:Jh w (.agg #[E f i g]) p)(y:Jh w (.agg #[E j l k]) q):
 Q I 153 #[.func (.func 136) #[] #[H (some ⟨a,0,none⟩),H (some ⟨b,0,none⟩)]] w λe m=>∃v cs,e=.returned v/\Yq 25 (w.heap.size+1) m v cs/\Gv m cs (ER p q)/\Bl w m:=by
 have n:=Y (kr K a b f j i g l k p q w u s t x y);clear u s t x y;go_enter Tryz.func153,Tryz.ntmps153
 go_wp2_with(go_at_call 186;refine n.o.mono ?_;clear n;rintro e R ⟨v,cs,rfl,d,o,r⟩;obtain⟨A,B,z,L,N⟩:=d.form;subst z;have c:=Y (And.intro d (And.intro o r));clear d o r)
 go_ret;exact⟨_,cs,rfl,c.o.1,c.o.2.1,c.o.2.2⟩
theorem EY.setK(h:EY V g n f)(d:j<n){x:G}(hp:Jh V v p):Jh (V.setCell ⟨g,j,none⟩ x) v p:=by
 obtain⟨cs,b,c⟩:=h;obtain⟨k,l,c0,a,_⟩:=c j d;obtain⟨u,e,i⟩:=hp;exact⟨u,e,XI b a rfl true DO _ _ _ i⟩
theorem Gv.els{W:F}{cs:List G}{L:List (List Rat)}{base:Nat}(h:Yq 25 base W v cs)(d:Gv W cs L)(s:L≠[]):∃g cap,v=E (some ⟨g,0,none⟩) L.length cap/\base<=g/\L.length<=cap/\cap<=maxLen/\EY W g L.length (λj=>L.getD j []):=by
 rcases h with⟨rfl,rfl⟩|⟨g,cap,k,rfl,n,o,p,q,t,r⟩
 . exact absurd (AM.1 (by rw[<-d.1];rfl)) s
 . refine⟨g,cap,by rw[d.1],n,by rw[<-d.1];exact p,q,k,o,λj i=>?_⟩;obtain⟨x,b,f⟩:=d.2 j L[j] (Af i);obtain⟨a,l,c,e⟩:=f.form;cases e;refine⟨a,l,c,?_,?_⟩
   . rw[<-r,Fe]at b;split at b
     . rw[Ce]at b;exact b
     . cases b
   . have m:L.getD j []=L[j]:=by simp[List.getD,i]
     show RowK true W _ (L.getD j []);rw[m];exact f.row
structure SrOk(K:Nat)(p:List Rat):Prop where
 ch:ChOk K p (Jc p)
 p0:p≠[]
theorem lI(f:ChOk K p q):∀(n:Nat) (a b:List Rat),b.length<=n->Chn p q (DW K p q) a b->a≠[]->∀x∈GG a b,Jd x=x/\Cd (DW K p q) x/\x.length<=max p.length q.length/\x≠[]:=by
 have one:∀a b,Chn p q (DW K p q) a b->a≠[]->Jd a=a/\Cd (DW K p q) a/\a.length<=max p.length q.length/\a≠[]:=λa b h e=>⟨h.ta,⟨1,DO,Sm.one _ f.bd.2.2.2,λi=>by
  obtain⟨z,g,j⟩:=h.wa i;exact⟨z,by rw[j,<-Fd ((z:Int):Rat)];simp,g⟩⟩,h.la,e⟩
 intro n;induction n with
 |zero=>
  intro a b hl h e x c;have d:b=[]:=L7 O;subst d;rw[LR]at c
  have:x=a:=by simpa using c
  subst this;exact one _ _ h e
 |succ n k=>
  intro a b hl h e x c;by_cases d:b=[]
  . subst d;rw[LR]at c
    have:x=a:=by simpa using c
    subst this;exact one _ _ h e
  . rw[Kh h.tb d]at c;rcases FS.1 c with rfl|c
    . exact one _ _ h e
    . have g:=XO (a:=a) h.tb d;exact k b (Xo a b) O (Chn.next f.tp f.tq f.lp f.lq f.bd.2.2.1 h d) d x c
theorem SrOk.mem(h:SrOk K p):∀x∈ER p (Jc p),Jd x=x/\Cd (DW K p (Jc p)) x/\x.length<=max p.length (Jc p).length/\x≠[]:=by
 have a:=Chn.start h.ch.tp h.ch.tq h.ch.lp h.ch.lq h.ch.bd.2.2.1;refine lI h.ch _ (JK p) (JK (Jc p)) (Aa _) a λe=>h.p0 (AM.1 ?_);rw[<-Yc h.ch.tp,e];rfl
theorem SrOk.last(h:SrOk K p):∃g,(ER p (Jc p)).getLast?=some g/\g∈ER p (Jc p)/\Yd p=(ER p (Jc p)).map λa=>Jz a g:=by
 have c:JK p≠[]:=λe=>h.p0 (AM.1 (by rw[<-Yc h.ch.tp,e];rfl));obtain⟨g,b,_⟩:=QI _ (JK p) (JK (Jc p)) (Aa _) (YI _) (YI _) c;have b:(ER p (Jc p)).getLast?=some g:=b;refine⟨g,b,List.mem_of_getLast? b,?_⟩;unfold Yd;rw[b];rfl
theorem SrOk.fit{x:List Rat}(h:SrOk K p)(a:x.length<=max p.length (Jc p).length):2*(DW K p (Jc p)+x.length*(DW K p (Jc p)+1)+1)+2*(2*DW K p (Jc p)+1)<=1000000:=by
 have b:=h.ch.le;have c:x.length*(DW K p (Jc p)+1)<=max p.length (Jc p).length*(DW K p (Jc p)+1):=Ah _ a;have d:(max p.length (Jc p).length+2)*(DW K p (Jc p)+1)=max p.length (Jc p).length*(DW K p (Jc p)+1)+2*(DW K p (Jc p)+1):=AC _ _ _;omega
theorem SrOk.sqs{K:Nat}{p:List Rat}(h:SrOk K p):Da p:=(show Cd K p from h.ch.cp).sqs h.ch.bd.2.1
theorem lJ{α:Type}(i j:Nat)(s c:Nat->α):(if j=i then s i else if j<i then s j else c j)=if j<i+1 then s j else c j:=by
 by_cases e:j=i
 . subst e;rw[BC rfl,BC O]
 . rw[BB e];by_cases a:j<i
   . rw[BC a,BC O]
   . rw[BB a,BB O]
def OD(w wr:F)(g n i B4:Nat)(la:Option Addr)(ll a:Nat)(C S:List (List Rat))(q:List Rat):Prop:=
 EY wr g n (λj=>if j<i then S.getD j []else C.getD j [])/\Do wr B4 la ll a/\Jh wr (.agg #[E la ll a]) q/\Bl w wr/\B4≠g/\w.heap.size<=g
theorem lK(K:Nat)(v:G)(p:List Rat)(w:F)(h:Jh w v p)(l:SrOk K p)(am:∀i,Sq (F9 p i)):
 Q I 105 #[v] w λe w'=>∃g cap,e=.returned (E (some ⟨g,0,none⟩) (Yd p).length cap)/\(Yd p).length<=cap/\cap<=maxLen/\EY w' g (Yd p).length (λj=>(Yd p).getD j [])/\Bl w w':=by
 obtain⟨r,la,s,rfl⟩:=h.form;have d:Bl w (w.alloc (M #[E r la s] 25)):=Ba w _;obtain⟨W0,ad⟩:=ex (w.alloc (M #[E r la s] 25));have n0:D W0 w.heap.size 25 (E r la s):=by rw[<-ad];exact BG w _ _
 rw[ad]at d;have Ql:=Y ad;have Qe:=Y n0;have u:=n0.cell;obtain⟨HA,Qk,Qp,Qh⟩:=Dy d (λ(V:F) (hB:Bl W0 V)=>iR (.agg #[E r la s]) p V ((h.below d).below hB) l.sqs am) (λ(V:F) (hB:Bl W0 V) (y:G) (hy:Jh V y (Jc p))=>lG (.agg #[E r la s]) y p (Jc p) V ((h.below d).below hB) hy) λ(V:F) (Bp Bq:Nat) (r qa:Option Addr) (pl s ql qc:Nat) (c:Do V Bp r pl s) (f:Do V Bq qa ql qc) (k:Jh V (.agg #[E r pl s]) p) (o:Jh V (.agg #[E qa ql qc]) (Jc p))=>lH K Bp Bq r qa pl s ql qc p (Jc p) V l.ch c f k o;obtain⟨q,T,ai,W⟩:=l.last;obtain⟨tq,cq,lq,q0⟩:=l.mem q ai;have Qn:=Y λ(V:F) (a:List Rat) (x y:G) (ha:a∈ER p (Jc p)) (hx:Jh V x a) (hy:Jh V y q)=>ku (DW K p (Jc p)) (DW K p (Jc p)) x y a q V hx hy (l.mem a ha).2.1 cq (l.mem a ha).1 tq q0 (l.fit (l.mem a ha).2.2.1);have X:ER p (Jc p)≠[]:=λe=>by rw[e]at T;cases T
 have Qi:(ER p (Jc p)).length<=1000000:=by
  have c:∀(n:Nat) (a b:List Rat),(El n a b).length<=n+1:=λn=>by
   induction n with
   |zero=>intro a b;exact Aa _
   |succ n ih=>
    intro a b;rw[El];split
    . simp
    . have:=ih b (Xo a b);simp only[Ai];omega
  have f:=c (JK (Jc p)).length (JK p) (JK (Jc p));have k:=Yc l.ch.tq;have o:=l.ch.ln;show(El _ _ _).length<=_;omega
 obtain⟨C,hC⟩:=ex (ER p (Jc p));obtain⟨S,hS⟩:=ex (Yd p);rw[hC]at T ai W X Qi Qh Qn;rw[hS]at W ⊢;have Qj:S.length=C.length:=by rw[W,Cs]
 obtain⟨Qs,Qu,Qm⟩:=Df (show ∀j (R:j<C.length),S.getD j []=Jz C[j] q from λj R=>by rw[W];simp[List.getD,R]) X λj (R:j<C.length)=>(⟨by simp[List.getD,R],CU R⟩:C.getD j []=C[j]/\C[j]∈C);rw[Qj];have Qr:0<C.length:=Ae.2 X;have Qa:=Y (show C.getD (C.length-1) []=q by
  rw[List.getLast?_eq_getElem?]at T;rw[List.getD,T];rfl)
 obtain⟨n,hn⟩:=ex (C.length);have Qq:=Y hn;rw[hn]at Qi Qr Qa ⊢;obtain⟨m,hm⟩:=ex (n-1:Nat);have ax:(n:Int)-1=(m:Int):=O
 have ay:IntKind.i64.wrap (m:Int)=(m:Int):=by rw[BL];omega
 have az:(m:Int)<(n:Int):=O
 have Qt:m<n:=O
 have bc:(n:Int)<=1000000:=O
 rw[hm]at Qa;clear h l am d ad n0 T ai W tq cq lq q0 X hC hS Qj hn Qi hm;go_enter Tryz.func105,Tryz.ntmps105
 go_upto_region 1 with fail
 rw[Ql.o];clear Ql;have hq:Bl W0 W0.drew:=(BA _ W0).drew;go_region_held3 (λw'=>w'.cell? ⟨w.heap.size,0,none⟩=some (E r la s)) (first|(with_reducible exact u)|(go_keep;done))
  (first
   |(go_at_call 38;refine(Qk.o _ hq).mono ?_;clear Qk;rintro e w5 ⟨v5,rfl,g5,af⟩;have hq:=Bt hq af;clear u;have u:=(boxed_below Qe.o hq).cell)
   |(go_at_call 87;refine(Qp.o _ hq _ g5).mono ?_;clear Qp;rintro e w6 ⟨Bp,Bq,xa,xl,xc,ya,yl,yc,rfl,k1,k2,k3,k4,ah⟩;clear g5;have hq:=Bt hq ah;clear u;have u:=(boxed_below Qe.o hq).cell)
   |(go_at_call 153;refine(Qh.o _ _ _ _ _ _ _ _ _ k1 k2 k3 k4).mono ?_;clear Qh k1 k2 k3 k4;rintro e t ⟨v7,cs,rfl,o7,p7,aj⟩;have hq:=Bt hq aj;clear u;have u:=(boxed_below Qe.o hq).cell;obtain⟨g,cap,rfl,hg,ak,an,hE⟩:=Gv.els o7 p7 Qu.o;clear o7 p7))
 rw[Qq.o]at hE ak ⊢;obtain⟨z,B,A,e8,r8⟩:=hE.cell Qt;rw[Qa.o]at r8;have Qd:Bl t (t.alloc (M #[E z B A] 25)):=Ba t _;have Qf:Bl w t:=Bt HA.o hq;have Qv:=hE.lt;have Qo:w.heap.size<=g:=by
  have c:=HA.o.size;have f:W0.heap.size<=w5.heap.size:=af.size;have k:=ah.size;omega
 have SR:Hid (OD w (t.alloc (M #[E z B A] 25)) g n 0 t.heap.size z B A C S q):=Y ⟨(hE.below Qd).cong λj _=>rfl,BG t _ _,⟨_,rfl,r8.below Qd⟩,Bt Qf Qd,O,Qo⟩;clear hE r8 Qd Qf Qv Qo af ah aj u;go_wp2;go_loopw [20] (λiv wr=>∃i:Nat,i<=n/\iv=P .i64 (i:Int)/\Hid (OD w wr g n i t.heap.size z B A C S q)) λiv _=>n-(intOf iv).toNat
 case atStart=>exact⟨0,Az _,rfl,SR⟩
 case round=>
  obtain⟨i,hi,rfl,HR⟩:=hrel;clear SR;by_cases ae:i<n
  . have aw:(i:Int)<(n:Int):=O
    have Qg:i<C.length:=by have:=Qq.o;omega
    obtain⟨c,f,k,o,L,N⟩:=HR.o;obtain⟨ya,yl,yc,e1,r1⟩:=c.cell ae;rw[BB O,(Qm.o i Qg).1]at r1;have d:Bl wr (wr.alloc (M #[E ya yl yc] 25)):=Ba wr _;have HC:=Y (Qn.o _ C[i] (.agg #[E ya yl yc]) (.agg #[E z B A]) (Qm.o i Qg).2 ⟨_,rfl,r1.below d⟩ (k.below d));rw[<-Qs.o i Qg]at HC;have HI:=Y (show OD w (wr.alloc (M #[E ya yl yc] 25)) g n i t.heap.size z B A C S q from⟨c.below d,f.below d,k.below d,Bt o d,L,N⟩);have e2:=(f.below d).cell;clear c f k o L N r1 d HR;go_wp2_with(go_at_call 139;refine HC.o.mono ?_;clear HC;rintro e w9 ⟨u9,v9,rfl,g9,k9,U⟩;obtain⟨a9,l9,c9,rfl⟩:=g9.form;obtain⟨ap,bf,aq,rfl⟩:=k9.form;obtain⟨c,f,k,o,L,N⟩:=HI.o;have c:=c.below U;obtain⟨xa,xl,xc,x0,_⟩:=c.cell ae;have x1:=c.frozen i;have HE:=Y (show OD w (w9.setCell ⟨g,i,none⟩ (E a9 l9 c9)) g n (i+1) t.heap.size z B A C S q from⟨(c.set ae g9.row).cong λj _=>lJ i j (S.getD · []) (C.getD · []),Bx.far (cs:=#[E z B A]) (f.below U) (p:=⟨g,i,none⟩) L _,c.setK ae (k.below U),(Bt o U).setCell (p:=⟨g,i,none⟩) N _,L,N⟩);clear c f k o L N g9 k9 U HI)
    go_roundw
    case rel=>exact⟨i+1,O,by go_num,HE⟩
    case measure=>simp[intOf];omega
  . obtain rfl:i=n:=O
    go_wp2;go_ret;obtain⟨c,f,k,o,L,N⟩:=HR.o;exact⟨g,cap,rfl,ak,an,c.cong λj R=>BC R,o⟩
theorem take_snoc{α:Type}{L:List α}{k:Nat}(h:k<L.length):∃r,L[k]=r/\L.take k++[r] <+: L/\L.take k++[r]=L.take (k+1):=
 ⟨_,rfl,by rw[List.take_append_getElem h];exact List.take_prefix _ _,List.take_append_getElem h⟩
theorem lL(w0:F)(L:List (List Rat))(f g cap:Nat)(S:D w0 f 120 (E (some ⟨g,0,none⟩) L.length cap))(hE:EY w0 g L.length λj=>L.getD j [])(hl:L.length<=1000000)(hc:L.length<=cap):
 Iw 152 #[H (some ⟨f,0,none⟩)] w0 L NO:=by
 intro n l G W0 N z ad A R x;have c1:W0.cell? ⟨f,0,none⟩=some (E (some ⟨g,0,none⟩) L.length cap):=(boxed_below S N).cell;obtain⟨len,o⟩:=ex (L.length);obtain⟨m,V,Qg,W,Qf,Qe⟩:=Kx o hE z A R x;have ae:(len:Int)<=1000000:=O
 rw[o]at c1 hc;clear N z ad A R x S hE hl o;refine B0 Tryz.func152 rfl trivial ?_ rfl;simp only[Tryz.ntmps152,Av,Ai,AD,Nat.reduceAdd,Nat.reduceSub,AE,AF,AX,AH,Au,AN];gi_wp2;gi_loopw [7] (λq wr=>∃k:Nat,k<=len/\q=P .i64 (k:Int)/\Hid (G (L.take k) wr/\W0.heap.size<=wr.heap.size)) λq _=>len-(intOf q).toNat
 case atStart=>exact⟨0,Az _,rfl,Y ⟨Qe.o,Aa _⟩⟩
 case round=>
  obtain⟨k,hk,rfl,b⟩:=hrel;clear c1;by_cases af:k<len
  . have ah:(k:Int)<(len:Int):=O
    obtain⟨a,l1,c,e0,p⟩:=(V.o.below (W.o _ _ b.o.1)).cell (j:=k) (by have:=m.o;omega);have d:Bl wr (wr.alloc (M #[E a l1 c] 25)):=Ba wr _;have i:k<L.length:=by have:=m.o;omega
    have v:L.getD k []=L[k]:=by simp[List.getD,i]
    obtain⟨r,w,T,K⟩:=take_snoc i;rw[v,w]at p;obtain⟨fn,tmps,assign,body,hy,B⟩:=Qf.o (n-1) (L.take k) r (.agg #[E a l1 c]) _ (Qg.o _ _ _ b.o.1 d) ⟨_,rfl,p.below d⟩ T (Am b.o.2 d.size);have t:=Y K;have s:=Y (Am b.o.2 d.size);clear p d v w T K i b;gi_wp2;refine⟨λh=>by simp[Fence.wide]at h,B.mono ?_⟩;rintro e u ⟨rfl,y,U,_⟩;have X:=Y (show G (L.take (k+1)) u/\W0.heap.size<=u.heap.size from⟨by rw[<-t.o];exact y,Am s.o U⟩);clear y U hy B t s e0;gi_wp2;go_roundw
    case rel=>exact⟨k+1,O,by go_num,X⟩
    case measure=>simp[intOf];omega
  . obtain rfl:k=len:=O
    gi_wp2;go_end0;exact⟨⟨_,rfl⟩,by have h:=b.o.1;rw[<-m.o,FO]at h;exact h⟩
theorem lM(w0:F)(p:List Rat)(j:Nat)(d:Option Addr)(i g:Nat)(v:D w0 j 25 (E d i g))(hp:Jh w0 (.agg #[E d i g]) p)(hl:p.length<=1000000):
 Iw 117 #[H (some ⟨j,0,none⟩)] w0 p.reverse PT:=by
 intro n l G W0 t W ai X hY T;have c1:W0.cell? ⟨j,0,none⟩=some (E d i g):=(boxed_below v t).cell;have q:=Y (Yv _ p W0 (hp.below t));obtain⟨len,w⟩:=ex (p.length);have ak:(len:Int)<=1000000:=O
 have B:=Y w;have Qk:=Y λ(V:F) (h:Bl w0 V)=>(boxed_below v h).cell;have Qi:=Y (λ(V:F) (h:Bl w0 V) (k:Nat) (hk:k<len) (r:Rat) (hr:p.reverse[k]?=some r)=>show Q I 74 #[.agg #[E d i g],P .i64 ((len:Int)-1-k)] V λe w'=>∃u,e=.returned u/\Jj w' u r/\Bl V w' by
  have S:=K9 _ p ((len:Int)-1-k) V (hp.below h);rw[BB O]at S;have e1:r=cf p ((len:Int)-1-k).toNat:=by
   rw[List.getElem?_reverse O]at hr;have h2:((len:Int)-1-k).toNat=p.length-1-k:=O
   rw[h2,cf,hr];rfl
  rw[e1];exact S)
 rw[w]at q;obtain⟨L,Qh,Qm,A⟩:=Dy W X hY T;clear t W ai X hY T v hp hl w;refine B0 Tryz.func117 rfl trivial ?_ rfl;simp only[Tryz.ntmps117,Av,Ai,AD,Nat.reduceAdd,Nat.reduceSub,AE,AF,AX,AH,Au,AN];gi_wp2_with(refine⟨trivial,λh=>by simp[Fence.wide]at h,?_⟩;gi_at_call 30;refine((BI (n:=_)).2 q.o).mono ?_;clear q;rintro e w4 ⟨rfl,a⟩)
 have K:=Y (L.o _ _ _ A.o a);have z:=Y a.size;clear a A c1;gi_loopw [3] (λx wr=>∃k:Nat,k<=len/\x=P .i64 ((len:Int)-1-k)/\Hid (G (p.reverse.take k) wr/\W0.heap.size<=wr.heap.size)) λx _=>(intOf x+1).toNat
 case atStart=>exact⟨0,Az _,Z,Y ⟨K.o,z.o⟩⟩
 case round=>
  obtain⟨k,hk,rfl,b⟩:=hrel;clear K z;by_cases aj:k<len
  . have y:=Y (Qh.o _ _ b.o.1);have e0:=Qk.o wr y.o;have s:k<p.reverse.length:=by rw[List.length_reverse];have:=B.o;omega
    obtain⟨r,R,ae,hT⟩:=take_snoc s;have o:=Y (Qi.o wr y.o k aj r (by rw[<-R];exact Af s));obtain⟨m,hm⟩:=ex (len-1-k:Nat);have c:(len:Int)-1-k=(m:Int):=O
    have HM:=Y hm;have am:(m:Int)<=1000000:=O
    rw[c]at o ⊢;have HT:=Y hT;have Ql:=Y ae;clear hm c hT ae R s;gi_wp2_with(refine⟨trivial,λh=>by simp[Fence.wide]at h,?_⟩;gi_at_call 74;refine((BI (n:=_)).2 o.o).mono ?_;clear o;rintro e w4 ⟨u4,rfl,ah,a⟩;obtain⟨fn,tmps,assign,body,hy,ad⟩:=Qm.o (n-1) (p.reverse.take k) r u4 w4 (L.o _ _ _ b.o.1 a) ah Ql.o (Am b.o.2 a.size))
    refine⟨λh=>by simp[Fence.wide]at h,ad.mono ?_⟩;rintro e N ⟨rfl,U,af,_⟩;have Qj:=Y (show G (p.reverse.take (k+1)) N/\W0.heap.size<=N.heap.size from⟨by rw[<-HT.o];exact U,Am b.o.2 (Am a.size af)⟩);clear U af hy ad ah a b;gi_wp2;go_roundw
    case rel=>exact⟨k+1,O,by(congr 1;have:=HM.o;omega),Qj⟩
    case measure=>simp[intOf]
  . obtain rfl:k=len:=O
    have c:(k:Int)-1-k=-1:=O
    rw[c];gi_wp2;refine⟨trivial,?_⟩;gi_wp2;all_goals(refine⟨λf h=>(by cases h),?_⟩;gi_wp2;go_end0;exact⟨⟨_,rfl⟩,by have h:=b.o.1;rw[Ac (by rw[List.length_reverse,B.o];exact Aa _)]at h;exact h⟩)
theorem lN(a:Option Addr)(l c:Nat)(w:F):
 Q I 104 #[E a l c] w λe b=>∃B,e=.returned (.func (.func 152) #[] #[H (some ⟨B,0,none⟩)])/\D b B 120 (E a l c)/\Bl w b:=by
 go_enter Tryz.func104,Tryz.ntmps104
 go_wp2_with fail
 go_ret;exact⟨_,rfl,BG w _ _,Ba w _⟩
theorem lO(g p:Nat)(lb pb:Array G)(w:F):
 Q I 106 #[.func (.func g) #[] lb,.func (.func p) #[] pb] w λe b=>∃d c,e=.returned (.func (.func 154) #[] #[H (some ⟨d,0,none⟩),H (some ⟨c,0,none⟩)])/\D b d 125 (.func (.func g) #[] lb)/\D b c 39 (.func (.func p) #[] pb)/\Bl w b:=by
 have f:Bl w ((w.alloc (M #[.func (.func g) #[] lb] 125)).alloc (M #[.func (.func p) #[] pb] 39)):=(Ba w _).alloc (by rw[Ax];omega) _;have a:=BG (w.alloc (M #[.func (.func g) #[] lb] 125)) 39 (.func (.func p) #[] pb);rw[Ax]at a;have j:=Y f;have i:=Y a;clear f a;go_enter Tryz.func106,Tryz.ntmps106
 go_wp2_with fail
 go_ret;exact⟨_,_,rfl,(BG w _ _).alloc _,i.o,j.o⟩
theorem lS(g p:Nat)(lb pb:Array G)(w:F):
 Q I 55 #[.func (.func g) #[] lb,.func (.func p) #[] pb] w λe b=>∃d c,e=.returned (.func (.func 116) #[] #[H (some ⟨d,0,none⟩),H (some ⟨c,0,none⟩)])/\D b d 96 (.func (.func g) #[] lb)/\D b c 61 (.func (.func p) #[] pb)/\Bl w b:=by
 have f:Bl w ((w.alloc (M #[.func (.func g) #[] lb] 96)).alloc (M #[.func (.func p) #[] pb] 61)):=(Ba w _).alloc (by rw[Ax];omega) _;have a:=BG (w.alloc (M #[.func (.func g) #[] lb] 96)) 61 (.func (.func p) #[] pb);rw[Ax]at a;have j:=Y f;have i:=Y a;clear f a;go_enter Tryz.func55,Tryz.ntmps55
 go_wp2_with fail
 go_ret;exact⟨_,_,rfl,(BG w _ _).alloc _,i.o,j.o⟩
structure Tells(pf:Nat)(pb:Array Value)(w:World)(xs:List (List Rat))(f:List Rat->Int):Prop where
 plc:LC pf pb w xs NO f
 ent:∀args w,(callFunc pf args).run Tryz.prog w=.ok (.enter pf args) w
 sg:∀x∈xs,-1<=f x/\f x<=1
theorem LC.later{α:Type}{w b:F}{xs:List α}{a:F->G->α->Prop}{f:α->Int}(h:LC pf pb w xs a f)(d:Bl w b):LC pf pb b xs a f:=
 λW v x c e g=>h W v x (Bt d c) e g
theorem VG{f:List Rat->Int}(L:List (List Rat))(b g cap c a:Nat)(w:F)(k:D w b 120 (E (some ⟨g,0,none⟩) L.length cap))(hE:EY w g L.length λj=>L.getD j [])(hl:L.length<=1000000)(m:L.length<=cap)(d:Tells pf pb w L f)(l:D w c 125 (.func (.func 152) #[] #[H (some ⟨b,0,none⟩)]))(i:D w a 39 (.func (.func pf) #[] pb)):
 Q I 54 #[.func (.func 154) #[] #[H (some ⟨c,0,none⟩),H (some ⟨a,0,none⟩)]] w λe p=>e=.returned (P .i64 (XW (L.map f):Int))/\Bl w p:=
 TD w (L.map f) (eN w L f c a (lL w L b g cap k hE hl m) (Bk Tryz.func152 (by kernel_rfl) rfl) d.ent l i d.plc) (Bk Tryz.func154 (by kernel_rfl) rfl)
  (λs n=>by obtain⟨x,o,rfl⟩:=CJ.1 n;exact d.sg x o) (by rw[Cs];exact hl)
theorem SrOk.len(d:SrOk K p):(Yd p).length<=1000000/\0<(Yd p).length:=by
 obtain⟨g,e,_,c⟩:=d.last;rw[c,Cs];have e:∀(n:Nat) (a b:List Rat),(El n a b).length<=n+1/\0<(El n a b).length:=λn=>by
  induction n with
  |zero=>intro a b;exact⟨Aa _,Nat.one_pos⟩
  |succ n f=>
   intro a b;rw[El];split
   . simp
   . have:=f b (Xo a b);simp only[Ai];omega
 have c:=e (JK (Jc p)).length (JK p) (JK (Jc p));have i:=Yc d.ch.tq;have j:=d.ch.ln;refine⟨?_,c.2⟩;show(El _ _ _).length<=_;omega
theorem QP(K:Nat)(v:G)(p:List Rat)(w:F)(h:Jh w v p)(R:SrOk K p)(aj:∀i,Sq (F9 p i)){z:Nat}{y:Array G}{f f2:List Rat->Int}(o:Tells pf pb w (Yd p) f)(q:Tells z y w (Yd p) f2):
 Q I 46 #[v,.func (.func pf) #[] pb,.func (.func z) #[] y] w λe w'=>e=.returned (P .i64 ((XW ((Yd p).map f):Int)-(XW ((Yd p).map f2):Int)))/\Bl w w':=by
 obtain⟨pa,la,pc,rfl⟩:=h.form;have d:Bl w (w.alloc (M #[E pa la pc] 25)):=Ba w _;obtain⟨W0,A⟩:=ex (w.alloc (M #[E pa la pc] 25));have n0:D W0 w.heap.size 25 (E pa la pc):=by rw[<-A];exact BG w _ _
 rw[A]at d;have Qh:=Y A;have Qj:=Y n0;have W:=n0.cell;have HA:=Y d;obtain⟨m,hm⟩:=ex (p.length-1:Nat);have Qi:(p.length:Int)-1=(m:Int):=by have:=Ae.2 R.p0;omega
 have T:=Y λ(V:F) (a:Bl W0 V)=>Yv _ p V ((h.below d).below a);rw[Qi]at T;obtain⟨Qf,r,U,X⟩:=Dy (λ(V:F) (a:Bl W0 V)=>lK K _ p V ((h.below d).below a) R aj) R.len (λ(V:F) (a:Bl W0 V)=>(⟨o.plc.later (Bt d a),o.ent,o.sg⟩:Tells pf pb V (Yd p) f)) λ(V:F) (a:Bl W0 V)=>(⟨q.plc.later (Bt d a),q.ent,q.sg⟩:Tells z y V (Yd p) f2);obtain⟨S,hS⟩:=ex (Yd p);rw[hS]at Qf r U X ⊢;have Qd:∀(g:List Rat->Int),Tells pf pb w S g\/Tells z y w S g->XW (S.map g)<=1000000:=λg N=>by
  have t:∀x∈S,-1<=g x/\g x<=1:=by rcases N with N|N<;>exact N.sg
  have u:=(NM (S.map g) (0,0) (λs hs=>by obtain⟨x,hx,rfl⟩:=CJ.1 hs;exact t x hx) DO).2;rw[Cs]at u;have:=r.o.1;show(List.foldl D6 (0,0) (S.map g)).1<=_;omega
 rw[hS]at o q;have l1:=Qd f (Or.inl o);have l2:=Qd f2 (Or.inr q);obtain⟨n1,ae⟩:=ex (XW (S.map f));obtain⟨n2,af⟩:=ex (XW (S.map f2));rw[ae]at l1 ⊢;rw[af]at l2 ⊢;have Qg:=Y λ(b g cap n l:Nat) (V:F) (a:Bl W0 V) (t:D V b 120 (E (some ⟨g,0,none⟩) S.length cap)) (u:EY V g S.length λj=>S.getD j []) (h3:S.length<=cap) (h4:D V n 125 (.func (.func 152) #[] #[H (some ⟨b,0,none⟩)])) (h5:D V l 39 (.func (.func pf) #[] pb))=>VG S b g cap n l V t u r.o.1 h3 (U.o V a) h4 h5;have Qe:=Y λ(b g cap n l:Nat) (V:F) (a:Bl W0 V) (t:D V b 120 (E (some ⟨g,0,none⟩) S.length cap)) (u:EY V g S.length λj=>S.getD j []) (h3:S.length<=cap) (h4:D V n 125 (.func (.func 152) #[] #[H (some ⟨b,0,none⟩)])) (h5:D V l 39 (.func (.func z) #[] y))=>VG S b g cap n l V t u r.o.1 h3 (X.o V a) h4 h5;rw[ae]at Qg;rw[af]at Qe;clear h R aj o q d A n0 hm Qi hS Qd ae af r U X;go_enter Tryz.func46,Tryz.ntmps46
 go_upto_region 1 with fail
 rw[Qh.o];clear Qh;have hq:=BA W0.heap.size W0;go_upto_region 3 with(go_at_call 30;refine(T.o _ hq).mono ?_;clear T;rintro e w5 ⟨rfl,ak⟩;have hq:=Bt hq ak;clear W;have W:=(boxed_below Qj.o hq).cell)
 go_upto_region 4 with(first
  |(go_at_call 105;refine(Qf.o _ hq).mono ?_;clear Qf;rintro e w6 ⟨g,cap,rfl,ai,an,hE,am⟩;have hq:=Bt hq am;clear W)
  |(go_at_call 104;refine(lN _ _ _ _).mono ?_;rintro e w7 ⟨b,rfl,c,ah⟩;have hq:=Bt hq ah;have hE:=hE.below ah))
 go_wp2_with(first
  |(go_at_call 106;refine(lO _ _ _ _ _).mono ?_;rintro e w8 ⟨n,l,rfl,L,B,ad⟩;have hq:=Bt hq ad;have hE:=hE.below ad;have c:=boxed_below c ad)
  |(go_at_call 54;refine(Qg.o _ _ _ _ _ _ hq c hE ai L B).mono ?_;clear Qg L B;rintro e w9 ⟨rfl,k⟩;have hq:=Bt hq k;have hE:=hE.below k;have c:=boxed_below c k)
  |(go_at_call 54;refine(Qe.o _ _ _ _ _ _ hq c hE ai L B).mono ?_;clear Qe L B;rintro e w9 ⟨rfl,k⟩;have hq:=Bt hq k;have hE:=hE.below k;have c:=boxed_below c k))
 go_ret;exact⟨rfl,Bt HA.o hq⟩
end M3
section
open Go.RowKit Go.Shelf
def I8(p:List Rat):Int:=if p=[]then -1 else(Dl (GV (Yd p)):Int)-(Dl (IC (Yd p)):Int)
def I9(p:List Rat)(x:Rat):Int:=if p=[]then -1 else(Dl (GV (Yd p)):Int)-(Dl (XB (Yd p) x):Int)
def Ii(p:List Rat)(x y:Rat):Int:=if p=[]then -1 else if y<=x then 0 else(Dl (XB (Yd p) x):Int)-(Dl (XB (Yd p) y):Int)
structure CtOk(K X:Nat)(p:List Rat):Prop where
 ch:M3.ChOk K p (Jc p)
 fit:max p.length (Jc p).length*(DW K p (Jc p)+max p.length (Jc p).length*(DW K p (Jc p)+1)+1+X+1)+1+X<=1000000
variable{p:List Rat}{K X:Nat}
theorem CtOk.sr(h:CtOk K X p)(p0:p≠[]):M3.SrOk K p:=⟨h.ch,p0⟩
theorem CtOk.sl(h:CtOk K X p)(i:Nat):Sq (F9 p i):=by
 have a:=(show Cd K (Jc p)from h.ch.cq).smq i;unfold Jc at a;rw[J1,Kn]at a;exact Sq.of a h.ch.bd.2.1
theorem CtOk.row(h:CtOk K X p)(p0:p≠[]):∀y∈Yd p,Da y/\y≠[]/\y.length<=1000000/\∀x,Db X x->M3.Iv y x/\Sq (ev y x):=by
 intro y b;have l:=(N9 h.ch.tp p0 y b).2;obtain⟨g,_,r,e⟩:=(h.sr p0).last;rw[e]at b;obtain⟨a,q,rfl⟩:=CJ.1 b;obtain⟨ta,ca,la,m⟩:=(h.sr p0).mem a q;obtain⟨s,c,z,o⟩:=(h.sr p0).mem g r;have j:=h.fit;obtain⟨n,f⟩:=ex (max p.length (Jc p).length);obtain⟨A,d⟩:=ex (DW K p (Jc p));rw[f,d]at j;rw[f]at la;rw[d]at ca c;have c1:=ca.quoG c s o;have t:a.length*(A+1)<=n*(A+1):=Ah _ la;have c2:Cd (A+n*(A+1)+1) (Jz a g):=c1.mono O;have l1:(Jz a g).length<=a.length:=by
  unfold Jz;refine Am (JY _) ?_;rw[(Y0 _ _ _ _ _).1];omega
 have k:0<n:=by have:=Ae.2 m;omega
 have u:1*(A+n*(A+1)+1+X+1)<=n*(A+n*(A+1)+1+X+1):=Ah _ k;have v:(Jz a g).length*(A+n*(A+1)+1+X+1)<=n*(A+n*(A+1)+1+X+1):=Ah _ O;have w:n*1<=n*(A+n*(A+1)+1+X+1):=Ap _ O;refine⟨c2.sqs O,l,O,λx i=>⟨VD i c2.smq O,Sq.of (VC i _ c2.smq) O⟩⟩
namespace M3
variable{p:List Rat}{K X:Nat}
theorem VH(e:CtOk K X p)(p0:p≠[])(w:F):Tells 47 #[] w (Yd p) F8 where
 plc:=λW v y _ d f=>by
  obtain⟨a,b,c,_⟩:=e.row p0 y f;have:=eI v y W d a b c;simpa using this
 ent:=Bk Tryz.func47 (by kernel_rfl) rfl
 sg:=λy _=>by
  have:=Hj (cf y (y.length-1));unfold F8 Ej;split<;>omega
theorem lT(d:CtOk K X p)(p0:p≠[])(w:F):Tells 48 #[] w (Yd p) Ej where
 plc:=λW v y _ c e=>by
  obtain⟨a,b,f,_⟩:=d.row p0 y e;have:=TC v y W c a b;simpa using this
 ent:=Bk Tryz.func48 (by kernel_rfl) rfl
 sg:=λy _=>Hj _
theorem QQ(i:CtOk K X p)(p0:p≠[])(w:F){B:Nat}{s t:Bool}{a b:Option Addr}{l c k d:Nat}{x:Rat}(e:Db X x)(n:JF w B 37 (C s) (E a l c) (C t) (E b k d))(q:Jj w (.agg #[C s,E a l c,C t,E b k d]) x):Tells 112 #[H (some ⟨B,0,none⟩)] w (Yd p) (λy=>De (ev y x)) where
 plc:=λW v y g o r=>by
  obtain⟨j,u,z,f⟩:=i.row p0 y r;have m:X<=1000000:=by have:=i.fit;omega
  have:=eJ v y x B s t a b l c k d W o (n.below g) (q.below g) j (Sq.of e m) (f x e).1 (f x e).2;simpa using this
 ent:=Bk Tryz.func112 (by kernel_rfl) rfl
 sg:=λy _=>Hj _
theorem VI(tp:Jd p=p)(p0:p≠[]):XW ((Yd p).map F8)=Dl (GV (Yd p)):=by
 rw[VF _ λy a=>(N9 tp p0 y a).2,KZ]
theorem lU(l:List (List Rat)):XW (l.map Ej)=Dl (IC l):=by rw[VE,KZ]
theorem LW(l:List (List Rat))(x:Rat):XW (l.map λy=>De (ev y x))=Dl (XB l x):=by
 rw[<-KZ];unfold XB;rw[List.map_map];rfl
theorem QR(v:G)(w:F)(h:Jh w v [])(f f2:G):
 Q I 46 #[v,f,f2] w λe j=>e=.returned (P .i64 (-1))/\Bl w j:=by
 obtain⟨g,la,i,rfl⟩:=h.form;have b:Bl w (w.alloc (M #[E g la i] 25)):=Ba w _;have a:=Y (Yv _ [] _ (h.below b));rw[show(([]:List Rat).length:Int)-1=-1 from rfl]at a;have c:=Y b;clear h b;go_enter Tryz.func46,Tryz.ntmps46
 go_wp2_with(go_at_call 30;refine a.o.mono ?_;clear a;rintro e k ⟨rfl,d⟩)
 go_ret;exact⟨rfl,Bt c.o d⟩
theorem VJ(K X:Nat)(v:G)(p:List Rat)(w:F)(h:Jh w v p)(a:CtOk K X p):
 Q I 13 #[v] w λe g=>e=.returned (P .i64 (I8 p))/\Bl w g:=by
 obtain⟨b,la,c,rfl⟩:=h.form;have d:Bl w (w.alloc (M #[E b la c] 25)):=Ba w _;have f:=Y (show Q I 46 #[.agg #[E b la c],.func (.func 47) #[] #[],.func (.func 48) #[] #[]] (w.alloc (M #[E b la c] 25)) λe g=>e=.returned (P .i64 (I8 p))/\Below (w.alloc (M #[E b la c] 25)).heap.size (w.alloc (M #[E b la c] 25)) g by
  unfold I8;by_cases p0:p=[]
  . rw[BC p0];rw[p0]at h;exact QR _ _ (h.below d) _ _
  . rw[BB p0];have i:=QP K _ p _ (h.below d) (a.sr p0) a.sl (VH a p0 _) (lT a p0 _);rw[VI a.ch.tp p0,lU]at i;exact i)
 have k:=Y d;obtain⟨n,j⟩:=ex (I8 p);rw[j]at f ⊢;clear h a d j;go_enter Tryz.func13,Tryz.ntmps13
 go_wp2_with(go_at_call 46;refine f.o.mono ?_;clear f;rintro e m ⟨rfl,l⟩)
 go_ret;exact⟨rfl,Bt k.o l⟩
end M3
end
theorem VK{p q:Rat}:0<=GD p q↔q<=p:=by
 rw[Rat.le_iff];unfold GD XT;split<;>(try split)<;>omega
namespace M3
open Go.RowKit Go.Shelf
theorem VL(K X:Nat)(v vx:G)(p:List Rat)(x:Rat)(w:F)(h:Jh w v p)(S:Jj w vx x)(g:CtOk K X p)(hX:Db X x):
 Q I 15 #[v,vx] w λe f=>e=.returned (P .i64 (I9 p x))/\Bl w f:=by
 obtain⟨i,la,j,rfl⟩:=h.form;obtain⟨s,a,l,c,t,b,k,d,rfl⟩:=Jj.form S;have o:Bl w ((w.alloc (M #[E i la j] 25)).alloc (M #[C s,E a l c,C t,E b k d] 37)):=(Ba w _).alloc (by rw[Ax];omega) _;have z:=(BG w 25 (E i la j)).alloc (M #[C s,E a l c,C t,E b k d] 37);have q:=JF.new (w.alloc (M #[E i la j] 25)) 37 (C s) (E a l c) (C t) (E b k d);rw[Ax]at q;obtain⟨W0,R⟩:=ex ((w.alloc (M #[E i la j] 25)).alloc (M #[C s,E a l c,C t,E b k d] 37));rw[R]at o z q;obtain⟨U,Qe,T,HA⟩:=Dy R z q o;have m:=z.cell;obtain⟨x0,x1,r,u⟩:=q.cq;have W:=Y λ(V:F) (N:Bl W0 V)=>PQ _ x V ((S.below o).below N);have A:=Y (λ(V:F) (N:Bl W0 V) (B:Nat) (s t:Bool) (a b:Option Addr) (l c k d:Nat) (y:JF V B 37 (C s) (E a l c) (C t) (E b k d)) (h2:Jj V (.agg #[C s,E a l c,C t,E b k d]) x)=>show Q I 46 #[.agg #[E i la j],.func (.func 47) #[] #[],.func (.func 112) #[] #[H (some ⟨B,0,none⟩)]] V λe f=>e=.returned (P .i64 (I9 p x))/\Bl V f by
  have L:=(h.below o).below N;unfold I9;by_cases p0:p=[]
  . rw[BC p0];rw[p0]at L;exact QR _ _ L _ _
  . rw[BB p0];have y:=QP K _ p _ L (g.sr p0) g.sl (VH g p0 _) (QQ g p0 V hX y h2);rw[VI g.ch.tp p0,LW]at y;exact y)
 obtain⟨n,hn⟩:=ex (I9 p x);rw[hn]at A ⊢;clear h S g hX o z q R hn;go_enter Tryz.func15,Tryz.ntmps15
 go_upto_region 1 with fail
 rw[U.o];clear U;have hq:Bl W0 W0.drew:=(BA _ W0).drew;go_region_held3 (λf=>f.cell? ⟨w.heap.size,0,none⟩=some (E i la j)/\f.cell? ⟨w.heap.size+1,0,none⟩=some (C s)/\f.cell? ⟨w.heap.size+1,1,none⟩=some (E a l c)/\f.cell? ⟨w.heap.size+1,2,none⟩=some (C t)/\f.cell? ⟨w.heap.size+1,3,none⟩=some (E b k d)) (first|(with_reducible exact⟨m,x0,x1,r,u⟩)|(go_keep;done))
  (first
   |(go_at_call 51;refine(W.o _ hq).mono ?_;clear W;rintro e w5 ⟨B5,s5,t5,a5,b5,l5,c5,k5,d5,rfl,n5,r5,ad⟩;have hq:=Bt hq ad;clear m x0 x1 r u;have m:=(boxed_below Qe.o hq).cell;obtain⟨x0,x1,r,u⟩:=(T.o.below hq).cq)
   |(go_at_call 46;refine(A.o _ hq _ _ _ _ _ _ _ _ _ n5 r5).mono ?_;clear A n5 r5;rintro e w6 ⟨rfl,ae⟩;have hq:=Bt hq ae;clear m x0 x1 r u;have m:=(boxed_below Qe.o hq).cell;obtain⟨x0,x1,r,u⟩:=(T.o.below hq).cq))
 go_wp2_with fail
 go_ret;exact⟨rfl,Bt HA.o hq⟩
theorem lV(v:G)(p:List Rat)(w:F)(h:Jh w v p):
 Q I 56 #[v] w λe d=>∃B a l c,e=.returned (.func (.func 117) #[] #[H (some ⟨B,0,none⟩)])/\D d B 25 (E a l c)/\Jh d (.agg #[E a l c]) p/\Bl w d:=by
 obtain⟨f,la,g,rfl⟩:=h.form;have b:Bl w (w.alloc (M #[E f la g] 25)):=Ba w _;have j:=Y (h.below b);have i:=Y b;clear h b;go_enter Tryz.func56,Tryz.ntmps56
 go_wp2_with fail
 go_ret;exact⟨_,f,la,g,rfl,BG w _ _,j.o,i.o⟩
theorem VM(v:G)(p:List Rat)(w:F)(h:Jh w v p)(g:Da p)(hl:p.length<=1000000):
 Q I 18 #[v] w λe t=>e=.returned (P .i64 (Dl p.reverse:Int))/\Bl w t:=by
 obtain⟨pa,la,pc,rfl⟩:=h.form;have m:Bl w (w.alloc (M #[E pa la pc] 25)):=Ba w _;have u:=Y (lV _ p _ (h.below m));have k:=Y (λ(V:F) (B d b:Nat) (a:Option Addr) (l c:Nat) (A:D V B 25 (E a l c)) (K:Jh V (.agg #[E a l c]) p) (L:D V d 96 (.func (.func 117) #[] #[H (some ⟨B,0,none⟩)])) (N:D V b 61 (.func (.func 57) #[] #[]))=>show Q I 54 #[.func (.func 116) #[] #[H (some ⟨d,0,none⟩),H (some ⟨b,0,none⟩)]] V λe t=>e=.returned (P .i64 (Dl p.reverse:Int))/\Bl V t by
  have y:=TD V (p.reverse.map De) (eQ V p.reverse De d b (lM V p B a l c A K hl) (Bk Tryz.func117 (by kernel_rfl) rfl) (Bk Tryz.func57 (by kernel_rfl) rfl) L N (λW v x _ X hx=>by
   have R:Sq x:=by
    obtain⟨i,hi,rfl⟩:=F1.1 (List.mem_reverse.1 hx);have:=g.at i;rw[cf]at this;simpa[List.getD,hi]using this
   have:=PP v x W X R;simpa using this)) (Bk Tryz.func116 (by kernel_rfl) rfl) (λs g=>by obtain⟨x,_,rfl⟩:=CJ.1 g;exact Hj x) (by rw[Cs,List.length_reverse];exact hl)
  rw[KZ]at y;exact y)
 have j:=Y m;obtain⟨n,z⟩:=ex (Dl p.reverse);rw[z]at k ⊢;clear h g hl m z;go_enter Tryz.func18,Tryz.ntmps18
 go_wp2_with(first
  |(go_at_call 56;refine u.o.mono ?_;clear u;rintro e w5 ⟨B5,a5,l5,c5,rfl,q,r,o⟩)
  |(go_at_call 55;refine(lS _ _ _ _ _).mono ?_;rintro e w6 ⟨d,b,rfl,U,T,f⟩;have q:=boxed_below q f;have r:=r.below f)
  |(go_at_call 54;refine(k.o _ _ _ _ _ _ _ q r U T).mono ?_;clear k;rintro e w7 ⟨rfl,S⟩))
 go_ret;exact⟨rfl,((Bt j.o o).trans (f.mono (Am j.o.size o.size))).trans (S.mono (Am (Am j.o.size o.size) f.size))⟩
end M3
open Go.RowKit Go.Shelf
def Kk(p:List Rat):Int:=if p=[]then -1 else(Dl (GV (Yp p)):Int)-(Dl (IC (Yp p)):Int)
def Kl(p:List Rat)(x:Rat):Int:=if p=[]then -1 else(Dl (GV (Yp p)):Int)-(Dl (XB (Yp p) x):Int)
def Ij(p:List Rat)(x y:Rat):Int:=if p=[]then -1 else if y<=x then 0 else(Dl (XB (Yp p) x):Int)-(Dl (XB (Yp p) y):Int)
structure RtOk(J K X:Nat)(p:List Rat):Prop where
 rok:RwOk J K p
 fit:(DS p).length*(DW K (DS p) (Jc (DS p))+1+X+1)+1+X<=1000000
variable{p:List Rat}{J K X:Nat}
theorem lW(h:RwOk J K p):∀(n:Nat) (a b:List Rat),b.length<=n->Shn (DS p) (Jc (DS p)) (DW K (DS p) (Jc (DS p))) 500000 a b->∀y∈EO n a b,Cd (DW K (DS p) (Jc (DS p))+1) y/\y.length<=(DS p).length:=by
 intro n;induction n with
 |zero=>
  intro a b _ c y d
  have:y=a:=by simpa[EO]using d
  subst this;exact⟨c.ca,c.la⟩
 |succ n e=>
  intro a b g c y d;by_cases b0:b=[]
  . rw[EO,BC b0]at d
    have:y=a:=by simpa using d
    subst this;exact⟨c.ca,c.la⟩
  . rw[EO,BB b0]at d;rcases FS.1 d with rfl|d
    . exact⟨c.ca,c.la⟩
    . obtain⟨c0,f⟩:=LV c.tb b0;have l2:=(Yh a (JN b) (X2 b) c0).2.1;have i:=OB (-1) (JE a (JN b));exact e _ _ O (h.next c b0) y d
theorem RtOk.row(h:RtOk J K X p):∀y∈Yp p,y≠[]/\∀x,Db X x->Da y/\M3.Iv y x:=by
 intro y b;obtain⟨a,c⟩:=lW h.rok _ _ _ (Aa _) h.rok.start y b;have f:=h.fit;have d:=Ae.2 h.rok.f0;have g:y.length*(DW K (DS p) (Jc (DS p))+1+X+1)<=(DS p).length*(DW K (DS p) (Jc (DS p))+1+X+1):=Ah _ c;have i:1*(DW K (DS p) (Jc (DS p))+1+X+1)<=(DS p).length*(DW K (DS p) (Jc (DS p))+1+X+1):=Ah _ d;exact⟨(QK h.rok.fr.ch.tp h.rok.p0 y b).2,λx e=>⟨a.sqs O,VD e a.smq O⟩⟩
theorem RtOk.len(h:RtOk J K X p):(Yp p).length<=1000000:=Am (M3.VB _ _ _) (by have:=h.rok.sl;have:=h.rok.ln;omega)
namespace M3
theorem VN{J K X:Nat}{p:List Rat}(h:RtOk J K X p):XW ((Yp p).map (EL true))=Dl (GV (Yp p)):=by
 rw[show(Yp p).map (EL true)=(Yp p).map F8 from rfl,VF _ λy a=>(h.row y a).1,KZ]
theorem lX(l:List (List Rat)):XW (l.map (EL false))=Dl (IC l):=by
 rw[show l.map (EL false)=l.map Ej from rfl,VE,KZ]
theorem LX(l:List (List Rat))(f:List Rat->Int)(b:∀y,-1<=f y/\f y<=1):XW (l.map f)<=l.length:=by
 have a:=(NM (l.map f) (0,0) (λs c=>by obtain⟨x,d,rfl⟩:=CJ.1 c;exact b x) DO).2;rw[Cs,Ch]at a;exact a
theorem lY(J K X:Nat)(v:G)(p:List Rat)(w:F)(b:RowK false w v p)(n:p≠[]->RtOk J K X p):
 Q I 14 #[v] w λe A=>e=.returned (P .i64 (Kk p))/\Bl w A:=by
 obtain⟨a,la,ca,rfl⟩:=b.form;have j:=b.formsF.1;by_cases p0:p=[]
 . have N:(la:Int)=0:=by rw[j,p0];rfl
   have e:Kk p=-1:=by unfold Kk;rw[BC p0]
   rw[e];clear b n p0 j e;go_enter Tryz.func14,Tryz.ntmps14
   go_wp2_with fail
   go_ret;exact⟨rfl,BA _ _⟩
 . obtain⟨m,rfl⟩:∃m,la=m+1:=⟨la-1,by have:=Ae.2 p0;omega⟩;have h:=n p0;obtain⟨q,g,i⟩:=Df (QM J K _ p w b h.rok) (λ(V:F) (u:G) (cs:List G) (k:Yq 29 w.heap.size V u cs) (l:E0 V cs (Yp p))=>QO u true (Yp p) cs w.heap.size V k l (λy o=>(h.row y o).1) h.len) λ(V:F) (u:G) (cs:List G) (k:Yq 29 w.heap.size V u cs) (l:E0 V cs (Yp p))=>QO u false (Yp p) cs w.heap.size V k l (λy o=>(h.row y o).1) h.len;have l1:=Am (LX (Yp p) (EL true) (OC true)) h.len;have l2:=Am (LX (Yp p) (EL false) (OC false)) h.len;have e:Kk p=(XW ((Yp p).map (EL true)):Int)-(XW ((Yp p).map (EL false)):Int):=by unfold Kk;rw[BB p0,VN h,lX]
   rw[e];obtain⟨R,s⟩:=ex (XW ((Yp p).map (EL true)));obtain⟨S,t⟩:=ex (XW ((Yp p).map (EL false)));rw[s]at g l1 ⊢;rw[t]at i l2 ⊢;clear b n p0 j e h s t;go_enter Tryz.func14,Tryz.ntmps14
   go_wp2_with(first
    |(go_at_call 49;refine q.o.mono ?_;clear q;rintro e T ⟨u5,rfl,⟨cs,c,f⟩,r⟩;obtain⟨B,L,z,_,_⟩:=c.form;subst z)
    |(go_at_call 50;refine(g.o _ _ _ c f).mono ?_;clear g;rintro e U ⟨rfl,d⟩;have c:=c.below d;have f:=f.keep λ_ _ h=>h.below d)
    |(go_at_call 50;refine(i.o _ _ _ c f).mono ?_;clear i;rintro e W ⟨rfl,x⟩))
   go_ret;exact⟨rfl,(Bt r d).trans (x.mono (Am r.size d.size))⟩
theorem ld(J K X:Nat)(va vx:G)(p:List Rat)(x:Rat)(w:F)(o:RowK false w va p)(r:Jl w vx x)(af:p≠[]->RtOk J K X p)(q:Db X x)(ak:X<=1000000):
 Q I 16 #[va,vx] w λe g=>e=.returned (P .i64 (Kl p x))/\Bl w g:=by
 obtain⟨a,la,ca,rfl⟩:=o.form;have W:=o.formsF.1;obtain⟨t,L,z,xs,v,B,A,N,rfl⟩:=Jl.form r;have c:Bl w (w.alloc (M #[E t L z,C xs,E v B A,C N] 47)):=Ba w _;have s:=JF.new w 47 (E t L z) (C xs) (E v B A) (C N);by_cases p0:p=[]
 . have aq:(la:Int)=0:=by rw[W,p0];rfl
   have e:Kl p x=-1:=by unfold Kl;rw[BC p0]
   rw[e];have R:=Y c;clear o r af p0 W e c s q;go_enter Tryz.func16,Tryz.ntmps16
   go_wp2_with fail
   go_ret;exact⟨rfl,R.o⟩
 . obtain⟨m,rfl⟩:∃m,la=m+1:=⟨la-1,by have:=Ae.2 p0;omega⟩;have h:=af p0;obtain⟨b,ad⟩:=ex (w.alloc (M #[E t L z,C xs,E v B A,C N] 47));rw[ad]at c s;obtain⟨Qc,R,T,Qb,S,U⟩:=Kx ad c s (QM J K _ p b (o.below c) h.rok) (λ(V:F) (u:G) (cs:List G) (h1:Yq 29 b.heap.size V u cs) (h2:E0 V cs (Yp p))=>QO u true (Yp p) cs b.heap.size V h1 h2 (λy hy=>(h.row y hy).1) h.len) λ(V:F) (u:G) (cs:List G) (h1:Yq 29 b.heap.size V u cs) (h2:E0 V cs (Yp p)) (hB:Bl b V)=>QN u _ (Yp p) x cs b.heap.size V h1 h2 ((r.below c).below hB) (Sq.of q ak) (λy hy=>(h.row y hy).2 x q) h.len;have l1:=Am (LX (Yp p) (EL true) (OC true)) h.len;have l2:=Am (LX (Yp p) (λy=>De (ev y x)) λ_=>Hj _) h.len;have e:Kl p x=(XW ((Yp p).map (EL true)):Int)-(XW ((Yp p).map λy=>De (ev y x)):Int):=by unfold Kl;rw[BB p0,VN h,LW]
   rw[e];obtain⟨aj,ah⟩:∃n,XW ((Yp p).map (EL true))=n:=⟨_,rfl⟩;obtain⟨n2,ai⟩:=ex (XW ((Yp p).map λy=>De (ev y x)));rw[ah]at S l1 ⊢;rw[ai]at U l2 ⊢;have aw:IntKind.i64.wrap ((aj:Int)-(n2:Int))=(aj:Int)-(n2:Int):=by rw[BL];omega
   clear o af p0 W e h ah ai r q c s ad;go_enter Tryz.func16,Tryz.ntmps16
   go_upto_region 1 with fail
   rw[Qc.o];clear Qc;go_upto_region 4 with(go_at_call 49;refine Qb.o.mono ?_;clear Qb;rintro e w5 ⟨u5,rfl,⟨cs,d,f⟩,am⟩;obtain⟨a5,c5,ap,_,_⟩:=d.form;subst ap)
   have hq:Bl b w5.drew:=am.drew;replace d:=d.below (BA _ w5).drew;replace f:=f.keep λ_ _ h=>h.below (BA _ w5).drew;obtain⟨i,j,k,l⟩:=(T.o.below hq).cq;go_region_held3 (λg=>g.cell? ⟨w.heap.size,0,none⟩=some (E t L z)/\g.cell? ⟨w.heap.size,1,none⟩=some (C xs)/\g.cell? ⟨w.heap.size,2,none⟩=some (E v B A)/\g.cell? ⟨w.heap.size,3,none⟩=some (C N)) (first|(with_reducible exact⟨i,j,k,l⟩)|(go_keep;done))
    (first
     |(go_at_call 50;refine(S.o _ _ _ d f).mono ?_;clear S;rintro e w6 ⟨rfl,ae⟩;have d:=d.below ae;have f:=f.keep λ_ _ h=>h.below ae;have hq:=Bt hq ae;clear i j k l;obtain⟨i,j,k,l⟩:=(T.o.below hq).cq)
     |(go_at_call 52;refine(U.o _ _ _ d f hq).mono ?_;clear U;rintro e w7 ⟨rfl,an⟩;have hq:=Bt hq an;clear i j k l;obtain⟨i,j,k,l⟩:=(T.o.below hq).cq))
   go_wp2_with fail
   go_ret;exact⟨rfl,Bt R.o hq⟩
end M3

