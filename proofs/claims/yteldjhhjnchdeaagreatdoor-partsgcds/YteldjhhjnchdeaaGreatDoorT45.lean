import Derived.Test.YteldjhhjnchdeaaGreatDoorT44
open Go.Value renaming slice->C,int->I
open Go renaming World->F,Value->G
open Go.Proofs.Tryz renaming prog->H
open Go.Obj renaming cells->E
set_option maxRecDepth 100000
set_option maxHeartbeats 16000000
namespace Go.Proofs.YteldjhhjnchdeaaGreatDoor
namespace M3
open Go.RowKit Go.Shelf
attribute [local go_sem] Oper.semAt_some
def KY(w V:F)(a:G)(ps:List Rat):Prop:=RowK false V a ps/\Bl w V
theorem KY.below{w V V':F}{b:G}{ps:List Rat}(h:KY w V b ps)(a:Bl V V'):KY w V' b ps:=⟨h.1.below a,Bt h.2 a⟩
variable{a p q:List Rat}{K:Nat}
theorem fJ(c:Rat):((1:Int):Rat)/c=1/c:=rfl
theorem fK(va:G)(ps:List Rat)(w:F)(o:RowK false w va ps)(ah:Jd ps=ps)(ae:Sqs ps)(af:ps≠[]->Sq (1/cf ps (ps.length-1)))(ay:ps.length<1099511627776):
 Calls H 40 #[va] w λe w'=>∃u,e=.returned u/\RowK false w' u (JD ps)/\Bl w w':=by
 have Qi:Tryz.prog.follows .mixedOrders=true:=by kernel_rfl
 obtain⟨a,la,ca,rfl⟩:=o.form;obtain⟨aw,az,bc,bi,s,t,aa,bb,ll,cc,kk,dd,hc⟩:=o.formsF;by_cases j:ps=[]
 . have Qf:la=0:=by rw[aw,j];rfl
   have HA:=O (show RowK false w (C a la ca) (JD ps)by rw[j]at o ⊢;exact o);clear o hc ae af ah j;go_enter Tryz.func40,Tryz.ntmps40
   go_wp2_with fail
   go_ret;exact⟨_,rfl,HA.o,BB _ _⟩
 . have Qf:¬(la:Int)=0:=by have:=Am.2 j;omega
   obtain⟨m,hm⟩:=ex (la-1:Nat);have bj:(la:Int)-1=(m:Int):=J
   have bk:IntKind.i64.wrap (m:Int)=(m:Int):=by rw[BS];omega
   have bm:(m:Int)<(la:Int):=J
   have P:ps.length-1=m:=J
   obtain⟨aq,g,rfl,L,ai,aj,ak,am⟩:=hc m J;have Qj:=O (show ∀V,Bl w V->(V.cell? ⟨g,m*4,none⟩=some (C (aa m) (ll m) (cc m))/\V.cell? ⟨g,m*4+1,none⟩=some (.bool (s m))/\V.cell? ⟨g,m*4+2,none⟩=some (C (bb m) (kk m) (dd m))/\V.cell? ⟨g,m*4+3,none⟩=some (.bool (t m)))/\Js V (.agg #[C (aa m) (ll m) (cc m),.bool (s m),C (bb m) (kk m) (dd m),.bool (t m)]) (cf ps m)from λV B=>by
    exact⟨⟨(B.cell (p:=⟨g,_,none⟩) L).trans ai,(B.cell (p:=⟨g,_,none⟩) L).trans aj,(B.cell (p:=⟨g,_,none⟩) L).trans ak,(B.cell (p:=⟨g,_,none⟩) L).trans am⟩,aq.below B⟩)
   obtain⟨Qg,Qe,Qk,Qd,Qh⟩:=Gi (show cf ps m≠0 by rw[<-P];exact JB ah j) (show Sq (1/cf ps m)by rw[<-P];exact af j) (show Jd (Yr (1/cf ps m) ps)=JD ps by unfold JD Dd;rw[P]) ae ay;have Q:KY w w.drew (C (some ⟨g,0,none⟩) la ca) ps:=KY.below ⟨o,BB _ _⟩ ((BB _ w).drew);have HX:=O Q;clear o hc aq L ai aj ak am ae af ah j P aw az bc ay Q;go_enter Tryz.func40,Tryz.ntmps40
   go_upto_region 3 with fail
   obtain⟨bz,ap⟩:=ex (((la:Int)==0));rw[ap];clear ap;have Q:=HX.o;refine Jp Qi [[],[],[],[],[3],[4],[2,5],[6],[1,7,1],[0,8,8],[9,9,0,1,2,3,4,5,6,7,8,9]] (by kernel_rfl) DQ
    (λD ad V=>∃(X tk tl ta tb R S T U W N:G),ad={ tmps:=#[C (some ⟨g,0,none⟩) la ca,undef,N,C (some ⟨g,0,none⟩) la ca,I .i64 ↑la,.bool bz,undef,X,tk,tl,ta,tb,R,S,T,U,W],defers:=[] }/\Hid ((D 0=true->X=C (some ⟨g,0,none⟩) la ca)/\(D 1=true->Js V tk ((1:Int):Rat))/\(D 2=true->tl=C (some ⟨g,0,none⟩) la ca)/\(D 3=true->ta=C (some ⟨g,0,none⟩) la ca)/\(D 4=true->tb=I .i64 (la:Int))/\(D 5=true->R=I .i64 (m:Int))/\(D 6=true->S=.pointer (some ⟨g,m*4,none⟩))/\(D 7=true->Js V T (cf ps m))/\(D 8=true->Js V U (1/cf ps m))/\(D 9=true->RowK false V W (JD ps))/\(D 10=true->RowK false V N (JD ps)))/\Hid (KY w V (C (some ⟨g,0,none⟩) la ca) ps))
    (E8 ⟨_,_,_,rfl,O ⟨Y,Y,Y,Y,Y,Y,Y,Y,Y,Y,Y⟩,O Q⟩) ?step1 ?fin1
   case step1=>
    rintro D ad V i ds bg hi d bf ⟨X,tk,tl,ta,tb,R,S,T,U,W,N,rfl,c,b⟩;have bh:i<11:=(Ad.1 hi).1;obtain rfl|rfl|rfl|rfl|rfl|rfl|rfl|rfl|rfl|rfl|rfl:=Gb i J
    all_goals
     simp only[Af,Ae,Ah]at hi;subst hi
    . have l:=b.o;clear d;refine DV ?_;exact⟨(Di c),O (b.o)⟩
    . have l:=b.o;clear d;have n:=O (KL 1 J J V);refine Jb rfl rfl λK hK=>?_;go_simp;go_wp2_with(go_at_call 42;refine n.o.mono ?_;rintro e w5 ⟨v5,rfl,M,f⟩)
      obtain⟨G0,_,r,v,x,y,z,A,G8,G9,q⟩:=c.o;exact E8 ⟨_,_,_,rfl,O ⟨G0,λ_=>M,r,v,x,y,z,λh=>(A h).below f,λh=>(G8 h).below f,λh=>(G9 h).below f,λh=>(q h).below f⟩,O (b.o.below f)⟩
    . have l:=b.o;clear d;refine DV ?_;exact⟨(Df c),O (b.o)⟩
    . have l:=b.o;clear d;refine DV ?_;exact⟨(Dj c),O (b.o)⟩
    . have l:=b.o;obtain rfl:=c.o.2.2.2.1 (d 3 Y);clear d;refine DV ?_;exact⟨(Dx (Dj c)),O (b.o)⟩
    . have l:=b.o;obtain rfl:=c.o.2.2.2.2.1 (d 4 Y);clear d;refine DV ?_;exact⟨(D8 (Dx c)),O (b.o)⟩
    . have l:=b.o;obtain rfl:=c.o.2.2.1 (d 2 Y);obtain rfl:=Do c (d 5 Y);clear d;refine DV ?_;exact⟨(Dy (D8 (Df c))),O (b.o)⟩
    . have l:=b.o;obtain rfl:=Du c (d 6 Y);obtain⟨⟨e0,e1,e2,e3⟩,hr⟩:=Qj.o V l.2;clear d;refine DV ?_;exact⟨(EL (Dy c) λ_=>hr),O (b.o)⟩
    . have l:=b.o;have j:=c.o.2.1 (d 1 Y);have h1:=D9 c (d 7 Y);clear d;have n:=O (RY _ _ ((1:Int):Rat) (cf ps m) V j h1 (Sq.of (k:=1) ⟨Sm.one 1 J,Sm.one 1 J⟩ J) (Qd.o.at m) Qg.o);rw[fJ]at n;clear j h1;refine Jb rfl rfl λK hK=>?_;go_simp;go_wp2_with(go_at_call 77;refine n.o.mono ?_;rintro e w5 ⟨v5,rfl,M,f⟩)
      obtain⟨G0,G1,r,v,x,y,z,A,_,G9,q⟩:=c.o;exact E8 ⟨_,_,_,rfl,O ⟨G0,λh=>(G1 h).below f,r,v,x,y,z,λh=>(A h).below f,λ_=>M,λh=>(G9 h).below f,λh=>(q h).below f⟩,O (b.o.below f)⟩
    . have l:=b.o;have j:=EE c (d 8 Y);obtain rfl:=c.o.1 (d 0 Y);clear d;have n:=O (Rc _ _ ps (1/cf ps m) V l.1 j Qd.o Qe.o Qh.o);rw[Qk.o]at n;clear j;refine Jb rfl rfl λK hK=>?_;go_simp;go_wp2_with(go_at_call 76;refine n.o.mono ?_;rintro e w5 ⟨v5,rfl,M,f⟩)
      obtain⟨_,G1,r,v,x,y,z,A,G8,_,q⟩:=c.o;exact E8 ⟨_,_,_,rfl,O ⟨λ_=>rfl,λh=>(G1 h).below f,r,v,x,y,z,λh=>(A h).below f,λh=>(G8 h).below f,λ_=>M,λh=>(q h).below f⟩,O (b.o.below f)⟩
    . have l:=b.o;have j:=EP c (d 9 Y);clear d;refine DV ?_;exact⟨(Kq c λ_=>j),O (b.o)⟩
   case fin1=>
    rintro D ad V an ⟨X,tk,tl,ta,tb,R,S,T,U,W,N,rfl,c,b⟩;have h9:=c.o.2.2.2.2.2.2.2.2.2.2 (an 10 DQ);have HH:=O (show RowK false V N (JD ps)/\Bl w V from⟨h9,b.o.2⟩);clear c b an h9;go_wp2_with fail
    go_ret;exact⟨_,rfl,HH.o⟩
theorem Rhn.dvn{b:List Rat}(h:Rhn p q (Dc K p q) a b)(i:b≠[]):∃D E:Int,Dvn D E E (Dc K p q) (Dc K p q) a b:=by
 obtain⟨D,d1,e,f⟩:=h.ca;obtain⟨E,c,d,g⟩:=h.cb;exact⟨D,E,d1,e,f,c,d,g,c,d,by rw[h.mb i,Rat.divInt_self' c]⟩
theorem ChOk.fit(b:ChOk K p q)(f:a.length<=max p.length q.length):Dc K p q+a.length*(Dc K p q+1)+1+(2*Dc K p q+1)<=1000000000:=by
 have c:(a.length+2)*(Dc K p q+1)<=(max p.length q.length+2)*(Dc K p q+1):=Ak _ J;have d:(a.length+2)*(Dc K p q+1)=a.length*(Dc K p q+1)+2*(Dc K p q+1):=AA _ _ _;have e:=b.le;omega
theorem Sw(K:Nat)(va vb:G)(p q:List Rat)(w:F)(ha:RowK false w va p)(Q:RowK false w vb q)(c:ChOk K p q):
 Calls H 13 #[va,vb] w λe f=>∃u,e=.returned u/\RowK false f u (JH p q)/\Bl w f:=by
 obtain⟨A,hA⟩:=ex (Dc K p q);have s:=c.bd;have Qo:=c.ln;have mono:∀(r:List Rat),Jd r=r->(∃D:Int,D≠0/\Sm 1000000000 D/\D7 D 1000000000 r)->r.length<=1000->∀(V:F) (x:G),RowK false V x r->Calls H 40 #[x] V λe f=>∃u,e=.returned u/\RowK false f u (JD r)/\Bl V f:=λr tr hr hl V x k=>by
  obtain⟨D,d1,M,N⟩:=hr;exact fK x r V k tr (Sqs.of λi=>Sq.of ((N i).smq d1 M) (Aa _)) (λj=>by
   rw[Fz,Rat.one_mul];exact Sq.of (((N _).smq d1 M).inv (JB tr j)) (Aa _)) J
 have Qa:∀(r:List Rat),(∃D:Int,D≠0/\Sm K D/\D7 D K r)->∃D:Int,D≠0/\Sm 1000000000 D/\D7 D 1000000000 r:=λr h=>by
  obtain⟨D,d1,M,N⟩:=h;exact⟨D,d1,M.mono s.2.1,λi=>(N i).mono s.2.1⟩
 obtain⟨H1,H2,z,Qg⟩:=D5 (λ(V:F) (hB:Bl w V)=>mono p c.tp (Qa p c.cp) J V va (ha.below hB)) (λ(V:F) (hB:Bl w V)=>mono q c.tq (Qa q c.cq) J V vb (Q.below hB)) (Rhn.start c.tp c.tq c.lp c.lq s.2.2.1) λ(a b:List Rat) (h:Rhn p q (Dc K p q) a b) (Q:b≠[])=>Rhn.next c.tp c.tq c.lp c.lq s.2.2.1 h Q;have Qk:=O (λ(a b:List Rat) (h:Rhn p q (Dc K p q) a b) (j:b≠[]) (V:F) (x y:G) (k:RowK false V x a) (hy:RowK false V y b)=>show Calls H 41 #[x,y] V λe f=>∃u v,e=.returned (.tuple #[u,v])/\RowK false f u (J0 a b)/\RowK false f v (JU a b)/\Bl V f by
  obtain⟨D,E,l⟩:=Rhn.dvn h j;have hf:=c.fit h.la;exact eQ _ (Dc K p q) x y a b V k hy (l.divS a.length J) l.start l.sq h.ta h.tb j (by have:=h.la;omega))
 have Qh:=O (λ(a b:List Rat) (h:Rhn p q (Dc K p q) a b) (j:b≠[]) (V:F) (x:G) (k:RowK false V x (JU a b))=>mono (JU a b) (YS _ _) (by
  obtain⟨D,E,l⟩:=Rhn.dvn h j;have hf:=c.fit h.la;obtain⟨m,hm⟩:=ex (a.length-(b.length-1));have ak:m*(Dc K p q+1)<=a.length*(Dc K p q+1):=Ak _ J;have P:=l.den m;have h2:=(l.rem hm).1;exact⟨_,P.1,P.2.mono J,λi=>(h2 i).mono J⟩) (by have P:=(YH a b h.tb j).2.1;have h2:=h.lb;omega) V x k)
 have Ql:=O (λ(a:List Rat) (h:Rhn p q (Dc K p q) a [])=>show a=JH p q by rw[<-h.gc,LB,h.ma]);have Qi:=O (λ(a b:List Rat) (h:Rhn p q (Dc K p q) a b)=>show b.length<=1000 by have:=h.lb;omega);rw[hA]at z Qg Qk Qh Ql Qi;clear mono Qa c s Qo ha Q hA;go_enter Tryz.func13,Tryz.ntmps13
 have Qf:Bl w w:=BB _ _;go_wp2_with(first
  |(go_at_call 40;refine(H1.o _ Qf).mono ?_;clear H1;rintro e w1 ⟨u1,rfl,o,ah⟩;have Qd:=Bt Qf ah;clear Qf)
  |(go_at_call 40;refine(H2.o _ Qd).mono ?_;clear H2;rintro e w2 ⟨u2,rfl,t,ad⟩;have Qm:=Bt Qd ad;have o:=o.below ad))
 obtain⟨S,U,T,rfl⟩:=o.form;obtain⟨W,g,X,rfl⟩:=t.form;go_loopw [5,6,7,8] (λav bv _ _ wr=>∃(a b:List Rat) (S:Option Addr) (U T:Nat) (W:Option Addr) (g X:Nat),av=C S U T/\bv=C W g X/\g<=1000/\Hid (g=b.length)/\Hid (RowK false wr (C S U T) a)/\Hid (RowK false wr (C W g X) b)/\Hid (Rhn p q A a b)/\Hid (Bl w wr)) λ_ bv _ _ _=>lenOf bv
 case atStart=>exact⟨_,_,_,_,_,_,_,_,rfl,rfl,by have:=Qi.o _ _ z.o;have:=t.formsF.1;omega,O t.formsF.1,O o,O t,z,O Qm⟩
 case round=>
  clear o t ah ad Qd Qm z;obtain⟨a,b,S,U,T,W,g,X,rfl,rfl,am,B,HA,HB,n,HQ⟩:=hrel;by_cases d:b=[]
  . have Qn:¬(0:Int)<(g:Int):=by have:=B.o;rw[d]at this;simp at this;omega
    have Qq:=O (show a=JH p q from Ql.o a (by have:=n.o;rwa[d]at this));clear d;go_wp2_with fail
    go_ret;exact⟨_,rfl,by rw[<-Qq.o];exact HA.o,HQ.o⟩
  . have Qn:(0:Int)<(g:Int):=by have:=B.o;have:=Am.2 d;omega
    obtain⟨H3,H4,HN,Qj⟩:=D5 (Qk.o a b n.o d wr _ _ HA.o HB.o) (λ(V:F) (x:G) (k:RowK false V x (JU a b))=>Qh.o a b n.o d V x k) (Qg.o a b n.o d) (show(JD (JU a b)).length<b.length by rw[Yk (YS _ _)];exact(YH a b n.o.tb d).2.1);clear d;go_wp2_with(first
     |(go_at_call 41;refine H3.o.mono ?_;clear H3;rintro e w3 ⟨u3,v3,rfl,aj,ai,R⟩)
     |(go_at_call 40;refine(H4.o _ _ ai).mono ?_;clear H4;rintro e w4 ⟨u4,rfl,af,ae⟩;obtain⟨za,zl,zc,rfl⟩:=af.form))
    obtain⟨L,Qr,Qp⟩:=Dg af ((HB.o.below R).below ae) ((Bt HQ.o R).trans (ae.mono (As HQ.o.size R.size)));clear aj ai R af ae;go_roundw
    case rel=>exact⟨b,JD (JU a b),_,_,_,_,_,_,rfl,rfl,by have:=L.o.formsF.1;have:=Qj.o;have:=B.o;omega,O L.o.formsF.1,Qr,L,HN,Qp⟩
    case measure=>
     show zl<g;have P:=L.o.formsF.1;have h2:=Qj.o;have h3:=B.o;omega
end M3
section
def Dv(a b:List Rat):Prop:=∃c:List Rat,∀x,ev b x=ev a x*ev c x
def Em(a b:List Rat):Prop:=∃u v:List Rat,∀x,ev u x*ev a x+ev v x*ev b x=1
section
variable {a b c d p q:List Rat}
theorem Dv.refl(a:List Rat):Dv a a:=⟨[1],λx=>by simp[ev];grind⟩
theorem Dv.trans(h:Dv a b)(d:Dv b c):Dv a c:=by
 obtain⟨u,e⟩:=h;obtain⟨v,f⟩:=d;exact⟨Jv u v,λx=>by rw[f,e,Jn];grind⟩
theorem Dv.zero(a:List Rat):Dv a []:=⟨[],λx=>by simp[ev]⟩
theorem Dv.mul(h:Dv a b)(c:List Rat):Dv a (Jv b c):=by
 obtain⟨u,d⟩:=h;exact⟨Jv u c,λx=>by rw[Jn,d,Jn];grind⟩
theorem Dv.comb(h:Dv d a)(e:Dv d b)(u v:List Rat)(f:∀x,ev c x=ev u x*ev a x+ev v x*ev b x):Dv d c:=by
 obtain⟨s,hs⟩:=h;obtain⟨t,g⟩:=e;exact⟨Xy (Jv u s) (Jv v t),λx=>by rw[f,hs,g,Xs,Jn,Jn];grind⟩
theorem Dv.of_sc{k:Rat}(c:k≠0)(h:Dv a b):Dv (Dd k a) b:=by
 obtain⟨u,d⟩:=h;have e:(1/k)*k=1:=Cq c;exact⟨Dd (1/k) u,λx=>by rw[d,YU,YU];grind⟩
theorem Dv.sc(h:Dv a b)(k:Rat):Dv a (Dd k b):=by
 obtain⟨u,c⟩:=h;exact⟨Dd k u,λx=>by rw[YU,c,YU];grind⟩
theorem Em.symm(h:Em a b):Em b a:=by
 obtain⟨u,v,h⟩:=h;exact⟨v,u,λx=>by rw[<-h x];grind⟩
theorem Em.of_dv(h:Em a b)(c:Dv d a):Em d b:=by
 obtain⟨u,v,h⟩:=h;obtain⟨s,hs⟩:=c;exact⟨Jv u s,v,λx=>by rw[<-h x,hs x,Jn];grind⟩
theorem Em.dv(h:Em a b)(e:Dv a (Jv b c)):Dv a c:=by
 obtain⟨u,v,h⟩:=h;obtain⟨k,f⟩:=e;refine⟨Xy (Jv u c) (Jv v k),λx=>?_⟩;have g:=h x;have d:=f x;rw[Jn]at d;rw[Xs,Jn,Jn];grind
theorem Em.mul(h:Em a b)(d:Em a c):Em a (Jv b c):=by
 obtain⟨u,v,h⟩:=h;obtain⟨s,t,d⟩:=d;refine⟨Xy u (Jv (Jv v b) s),Jv v t,λx=>?_⟩;have e:=h x;have f:=d x;rw[Xs,Jn,Jn,Jn,Jn];grind
end
theorem Sx{p:List Rat}(x:Rat):ev (JD p) x=ev p x*(1/cf p (p.length-1)):=YU _ _ _
theorem fL:∀(n:Nat) (p q:List Rat),Jd p=p->Jd q=q->q.length<=n->Dv (EN n p q) p/\Dv (EN n p q) q/\∃u v:List Rat,∀x,ev (EN n p q) x=ev u x*ev p x+ev v x*ev q x:=by
 intro n;induction n with
 |zero=>
  intro p q hp hq hl;have a:q=[]:=MZ J;subst a;rw[EN];refine⟨?_,Dv.zero _,[1/cf p (p.length-1)],[],λx=>by rw[Sx];simp[ev];grind⟩;by_cases b:p=[]
  . subst b;exact Dv.refl _
  . exact Dv.of_sc (Hy (JB hp b)) (Dv.refl _)
 |succ n g=>
  intro p q hp hq hl;by_cases a:q=[]
  . subst a;simp only[EN,BG];refine⟨?_,Dv.zero _,[1/cf p (p.length-1)],[],λx=>by rw[Sx];simp[ev];grind⟩;by_cases b:p=[]
    . subst b;exact Dv.refl _
    . exact Dv.of_sc (Hy (JB hp b)) (Dv.refl _)
  . simp only[EN,BE a];obtain⟨d,j,k,i⟩:=YH p q hq a;obtain⟨c,e,u,v,f⟩:=g q (JU p q) hq i J;refine⟨c.comb e (J0 p q) [1] (λx=>by rw[d x];simp[ev];grind),c,v,JO u (Jv v (J0 p q)),λx=>?_⟩;rw[f x,d x,Gw,Jn];grind
section
variable {p q d:List Rat}
theorem IQ(hp:Jd p=p)(hq:Jd q=q):Dv (JH p q) p/\Dv (JH p q) q/\∃u v:List Rat,∀x,ev (JH p q) x=ev u x*ev p x+ev v x*ev q x:=fL _ p q hp hq (Aa _)
theorem Sy(hp:Jd p=p)(hq:Jd q=q)(a:Dv d p)(b:Dv d q):Dv d (JH p q):=by
 obtain⟨_,_,u,v,h⟩:=IQ hp hq;exact a.comb b u v h
theorem fM:∀(n:Nat) (p q:List Rat),Jd p=p->Jd q=q->q.length<=n->JD (EN n p q)=EN n p q:=by
 intro n;induction n with
 |zero=>intro p q hp _ _;exact Me hp
 |succ n b=>
  intro p q hp hq hl;rw[EN];split
  . exact Me hp
  . rename_i a;have:=(YH p q hq a).2.1;exact b _ _ hq (YS _ _) J
theorem LH(hp:Jd p=p)(hq:Jd q=q):JD (JH p q)=JH p q:=fM _ p q hp hq (Aa _)
end
variable{a b g p q:List Rat}
theorem KZ(hp:Jd p=p)(h:∀x,ev p x=0):p=[]:=E0 hp rfl (λx=>by rw[h x];rfl)
theorem Dv.some(d:Jd b=b)(h:Dv a b):∃c,Jd c=c/\b=Jv a c:=by
 obtain⟨c,e⟩:=h;exact⟨Jd c,Yi _,E0 d (Ym _ _) λx=>by rw[Jn,XE,e]⟩
theorem IR(a:List Rat):Jv a []=[]:=KZ (Ym _ _) λx=>by rw[Jn];simp[ev]
theorem Dv.anti(o:Jd a=a)(j:Jd b=b)(h:Dv a b)(r:Dv b a):∃k:Rat,k≠0/\b=Dd k a:=by
 obtain⟨c,p,e⟩:=h.some j;obtain⟨d,s,i⟩:=r.some o;by_cases g:a=[]
 . refine⟨1,DQ,?_⟩;rw[e,g];rfl
 . have n:b≠[]:=λf=>g (by rw[i,f];rfl);have m:c≠[]:=λf=>n (by rw[e,f];exact IR _);have l:d≠[]:=λf=>g (by rw[i,f];exact IR _);have l1:=Yf o p g m;have l2:=Yf j s n l;rw[<-e]at l1;rw[<-i]at l2;have u:0<c.length:=Am.2 m;have v:0<d.length:=Am.2 l;have w:0<a.length:=Am.2 g;have q:c.length=1:=J
   match c,q with
   |[k],_=>
    have t:k≠0:=by
     have:=JB p Y;simpa[YY]using this
    refine⟨k,t,E0 j (JZ _ _) λx=>?_⟩;rw[e,Jn,YU];simp[ev];grind
theorem Dv.eq(c:Jd a=a)(f:Jd b=b)(ma:JD a=a)(mb:JD b=b)(h:Dv a b)(d:Dv b a):a=b:=by
 obtain⟨k,g,e⟩:=h.anti c f d;rw[<-mb,e,Mc g c,ma]
theorem Xw(e:Jd g=g)(a:g≠[])(h:Dv g p):JU p g=[]/\∀x,ev p x=ev g x*ev (J0 p g) x:=by
 obtain⟨c,d⟩:=h;have b:=Ma (p:=p) (u:=Jd c) (v:=[]) e a (Yi _) rfl (Am.2 a) (λx=>by rw[d,XE];simp[ev];grind);refine⟨b.2.symm,λx=>?_⟩;rw[<-b.1,XE,d]
theorem XV{u v:List Rat}(i:Jd g=g)(b:g≠[])(h:∀x,ev g x*ev u x=ev g x*ev v x):∀x,ev u x=ev v x:=by
 have d:Jv g (JO u v)=[]:=KZ (Ym _ _) λx=>by rw[Jn,Gw];have:=h x;grind
 have e:JO u v=[]:=by
  by_cases a:JO u v=[]
  . exact a
  . exfalso
    have l:=Yf i (XN u v) b a;rw[d]at l;have j:0<g.length:=Am.2 b;have k:0<(JO u v).length:=Am.2 a;simp at l;omega
 intro x;have c:=Bv (λr=>ev r x) e;simp only[Gw]at c;have f:ev [] x=0:=rfl;rw[f]at c;grind
theorem Sz(hp:Jd p=p)(hq:Jd q=q)(a:JH p q≠[]):Em (J0 p (JH p q)) (J0 q (JH p q)):=by
 obtain⟨f,g,u,v,i⟩:=IQ hp hq;have c:=YP p q;have d:=(Xw c a f).2;have e:=(Xw c a g).2;refine⟨u,v,?_⟩;have j:=XV (u:=Xy (Jv u (J0 p (JH p q))) (Jv v (J0 q (JH p q)))) (v:=[1]) c a (λx=>by
  rw[Xs,Jn,Jn];have b:=i x;have k:=d x;have l:=e x;simp[ev];grind)
 intro x;have b:=j x;rw[Xs,Jn,Jn]at b;rw[b];simp[ev];grind
theorem S0(hp:Jd p=p)(hq:Jd q=q)(h:p≠[]\/q≠[]):JH p q≠[]:=λe=>by
 obtain⟨a,b,_⟩:=IQ hp hq;rw[e]at a b;obtain⟨c,f⟩:=a;obtain⟨d,g⟩:=b;rcases h with h|h
 . exact h (KZ hp λx=>by rw[f];simp[ev])
 . exact h (KZ hq λx=>by rw[g];simp[ev])
end
section
variable {a b c d e f g k p q r u w y z R:List Rat}
theorem LI(p q:List Rat)(x:Rat):ev (Ji (Jv p q)) x=ev (Ji p) x*ev q x+ev p x*ev (Ji q) x:=by
 rw[Tn,Xs,Jn,Jn]
theorem TC(p:List Rat)(i:Nat):cf (Ji p) i=cf p (i+1)*(((i+1:Nat):Int):Rat):=by
 unfold Ji;rw[JR,I5];rfl
theorem fN(a:p≠[]):(Ji p).length<p.length:=by
 have b:0<p.length:=Am.2 a;have c:(Ji p).length<=p.length-1:=Y8 (Xi _) λi d=>by
  rw[TC,J3 J,CJ]
 omega
theorem fO(hp:Jd p=p)(h:Ji p=[]):p.length<=1:=by
 refine Y8 hp λi d=>?_;obtain⟨j,rfl⟩:∃j,i=j+1:=⟨i-1,J⟩;have b:=TC p j;rw[h,Yw]at b;rcases FE.1 b.symm with a|a
 . exact a
 . exfalso
   have c:((j+1:Nat):Int)=0:=by exact_mod_cast a
   omega
theorem Oh(hp:Jd p=p)(a:p≠[])(hl:p.length<=1):Dv p [1]:=by
 have b:0<p.length:=Am.2 a;match p,hl,hp,a with
 |[c],_,hp,_=>
  have d:c≠0:=by
   have:=JB hp Y;simpa[YY]using this
  exact⟨[1/c],λx=>by simp[ev];grind⟩
theorem TD(b:Jd u=u)(a:u≠[])(h:Dv u (Ji u)):Dv u [1]:=by
 refine Oh b a (fO b ?_);obtain⟨c,i,e⟩:=h.some (Xi u);by_cases f:Ji u=[]
 . exact f
 . exfalso
   have d:c≠[]:=λg=>f (by rw[e,g];exact IR _);have l1:=Yf b i a d;have l2:=fN a;have j:0<c.length:=Am.2 d;rw[<-e]at l1;omega
theorem fP(D:Jd d=d)(r:d≠[])(h:Dv d (Jv (Ji d) f)):∀(n:Nat) (u:List Rat),Jd u=u->d.length-u.length<=n->Dv u d->Em u f->Dv u [1]:=by
 intro n;induction n with
 |zero=>
  intro u b hl p l;obtain⟨m,o,e⟩:=p.some D;have a:u≠[]:=λg=>r (by rw[e,g];rfl);have w:m≠[]:=λg=>r (by rw[e,g];exact IR _);have l1:=Yf b o a w;rw[<-e]at l1;have p3:0<u.length:=Am.2 a;have R:m.length<=1:=J
  have S:=Oh o w R;have Q:Dv d u:=by
   obtain⟨c,j⟩:=S;refine⟨c,λx=>?_⟩;have y:=j x;rw[e,Jn,Rat.mul_assoc,<-y];simp[ev];grind
  have i:Dv u (Jv f (Ji d)):=by
   obtain⟨c,j⟩:=p.trans h;exact⟨c,λx=>by rw[<-j,Jn,Jn];grind⟩
  have z:=l.dv i;refine TD b a ?_;obtain⟨k,hk,T⟩:=Q.anti D b p;have A:Ji u=Dd k (Ji d):=by
   refine E0 (Xi _) (JZ _ _) λx=>?_;rw[T,YU];have B:Dd k d=Jv d [k]:=E0 (JZ _ _) (Ym _ _) λx=>by rw[YU,Jn];simp[ev];grind
   rw[B,LI];have M:ev (Ji [k]) x=0:=by rw[LR];simp[dv,ev];grind
   rw[M];simp[ev];grind
  rw[A];exact z.sc k
 |succ n ih=>
  intro u b hl p l;obtain⟨m,o,e⟩:=p.some D;have a:u≠[]:=λg=>r (by rw[e,g];rfl);have w:m≠[]:=λg=>r (by rw[e,g];exact IR _);obtain⟨U,V,s,t,W⟩:=IQ b o;have L:=S0 b o (Or.inl a);have K:=YP u m;by_cases X:(JH u m).length<=1
  . obtain⟨c,j⟩:=Oh K L X;have P:Em u m:=⟨Jv s c,Jv t c,λx=>by
     have y:=j x;have i:=W x;rw[Jn,Jn];have z:ev [1] x=1:=by simp[ev];grind
     rw[z]at y;grind⟩
    have i:Dv u (Jv f (Jv m (Ji u))):=by
     obtain⟨v,q⟩:=h;refine⟨JO (Jv m v) (Jv f (Ji m)),λx=>?_⟩;have A:=q x;have B:=LI u m x;rw[<-e]at B;have M:ev d x=ev u x*ev m x:=by rw[e,Jn]
     rw[Jn]at A;rw[Jn,Jn,Gw,Jn,Jn];grind
    exact TD b a (P.dv (l.dv i))
  . have N:Dv (Jv u (JH u m)) d:=by
     obtain⟨v,q⟩:=V;exact⟨v,λx=>by rw[e,Jn,q,Jn];grind⟩
    have l1:=Yf b K a L;have p3:0<u.length:=Am.2 a;have i:=ih (Jv u (JH u m)) (Ym _ _) J N (l.symm.mul (l.of_dv U).symm).symm;obtain⟨v,q⟩:=i;exact⟨Jv (JH u m) v,λx=>by rw[q,Jn,Jn];grind⟩
structure Yun(R w y:List Rat):Prop where
 tR:Jd R=R
 R0:R≠[]
 tw:Jd w=w
 w0:w≠[]
 mw:JD w=w
 ty:Jd y=y
 eq:∀x,ev y x*ev R x=ev w x*ev (Ji R) x
 cop:Em w y
theorem Yun.dv(h:Yun R w y):Dv w R:=by
 refine h.cop.dv ⟨Ji R,λx=>?_⟩;rw[Jn,h.eq]
theorem fQ(f:Jd w=w)(w0:w≠[])(mw:JD w=w)(d:Jd g=g)(p:JD g=g)(h:Dv g w):JD (J0 w g)=J0 w g/\g≠[]/\J0 w g≠[]/\w=Jv g (J0 w g):=by
 have a:g≠[]:=λe=>w0 (by
  obtain⟨c,m⟩:=h;exact KZ f λx=>by rw[m,e];simp[ev])
 have e:=(Xw d a h).2;have b:w=Jv g (J0 w g):=E0 f (Ym _ _) λx=>by rw[Jn,<-e]
 have q0:J0 w g≠[]:=λj=>w0 (by rw[b,j];exact IR _);refine⟨?_,a,q0,b⟩;have l:=Yf d (IM w g) a q0;have r:0<g.length:=Am.2 a;have q:0<(J0 w g).length:=Am.2 q0;have i:cf w (w.length-1)=cf g (g.length-1)*cf (J0 w g) ((J0 w g).length-1):=by
  obtain⟨Q,k⟩:=ex (J0 w g);rw[k]at b l q ⊢;rw[b,l,show g.length+Q.length-1-1=(g.length-1)+(Q.length-1)by omega];unfold Jv;rw[JR];exact Ox g Q (g.length-1) (Q.length-1) J J
 have o:cf w (w.length-1)=1:=by have:=Md f w0;rwa[mw]at this
 have n:cf g (g.length-1)=1:=by have:=Md d a;rwa[p]at this
 rw[o,n,Rat.one_mul]at i;unfold JD;rw[<-i,show(1:Rat)/1=1 by grind];exact KV (IM _ _)
theorem Yun.step(h:Yun R w y):JH w (J0 R w)=J0 w (JH w (JO y (Ji w)))/\J0 w (JH w (J0 R w))=JH w (JO y (Ji w))/\
 Yun (J0 R w) (J0 w (JH w (JO y (Ji w)))) (J0 (JO y (Ji w)) (JH w (JO y (Ji w))))/\R=Jv w (J0 R w)/\
 (∀x,ev (JO y (Ji w)) x*ev (J0 R w) x=ev w x*ev (Ji (J0 R w)) x)/\w=Jv (JH w (JO y (Ji w))) (J0 w (JH w (JO y (Ji w)))):=by
 obtain⟨r,hr⟩:=ex (J0 R w);obtain⟨z,Q⟩:=ex (JO y (Ji w));have j:Jd r=r:=by rw[<-hr];exact IM _ _
 have V:Jd z=z:=by rw[<-Q];exact XN _ _
 have eR:∀x,ev R x=ev w x*ev r x:=by rw[<-hr];exact(Xw h.tw h.w0 h.dv).2
 have W:R=Jv w r:=E0 h.tR (Ym _ _) λx=>by rw[Jn,eR]
 have r0:r≠[]:=λe=>h.R0 (by rw[W,e];exact IR _);have Qf:∀x,ev z x*ev r x=ev w x*ev (Ji r) x:=by
  have b:=XV (g:=w) (u:=Jv z r) (v:=Jv w (Ji r)) h.tw h.w0 (λx=>by
   have a:=h.eq x;have i:=LI w r x;rw[<-W]at i;rw[Jn,Jn,<-Q,Gw];have M:=eR x;grind)
  intro x;have a:=b x;rwa[Jn,Jn]at a
 have Qe:=Xi r;obtain⟨d,D⟩:=ex (JH r (Ji r));have L:Jd d=d:=by rw[<-D];exact YP _ _
 have d0:d≠[]:=by rw[<-D];exact S0 j Qe (Or.inl r0)
 obtain⟨g1,g2,_⟩:=IQ j Qe;rw[D]at g1 g2;obtain⟨f,hf⟩:=ex (J0 r d);obtain⟨e,he⟩:=ex (J0 (Ji r) d);have A:∀x,ev r x=ev d x*ev f x:=by rw[<-hf];exact(Xw L d0 g1).2
 have ee:∀x,ev (Ji r) x=ev d x*ev e x:=by rw[<-he];exact(Xw L d0 g2).2
 have tf:Jd f=f:=by rw[<-hf];exact IM _ _
 have f0:f≠[]:=λe2=>r0 (KZ j λx=>by rw[A,e2];simp[ev]);have Qi:Em f e:=by
  have:=Sz j Qe (by rw[D];exact d0);rwa[D,hf,he]at this
 have Qh:∀x,ev z x*ev f x=ev w x*ev e x:=by
  have b:=XV (g:=d) (u:=Jv z f) (v:=Jv w e) L d0 (λx=>by
   have a:=Qf x;rw[A,ee]at a;rw[Jn,Jn];grind)
  intro x;have a:=b x;rwa[Jn,Jn]at a
 have Qg:Dv f w:=Qi.dv (⟨z,λx=>by rw[Jn];have:=Qh x;grind⟩);obtain⟨k,tk,ek⟩:=Qg.some h.tw;have l:∀x,ev w x=ev f x*ev k x:=λx=>by rw[ek,Jn]
 have X:∀x,ev z x=ev k x*ev e x:=by
  have b:=XV (g:=f) (u:=z) (v:=Jv k e) tf f0 (λx=>by
   have a:=Qh x;rw[l]at a;rw[Jn];grind)
  intro x;have a:=b x;rwa[Jn]at a
 obtain⟨P,m⟩:=ex (JH w z);have o:Jd P=P:=by rw[<-m];exact YP _ _
 have mP:JD P=P:=by rw[<-m];exact LH h.tw V
 obtain⟨T,p2,_⟩:=IQ h.tw V;have Qo:Dv k P:=by rw[<-m];exact Sy h.tw V ⟨f,λx=>by rw[l];grind⟩ ⟨e,X⟩
 rw[m]at T p2;have Qm:Dv P k:=by
  obtain⟨u,v,K⟩:=Qi;refine T.comb p2 u v λx=>?_;have b:=K x;rw[l,X];grind
 obtain⟨m1,q,S,eW⟩:=fQ h.tw h.w0 h.mw o mP T;have zP:=(Xw o q p2).2;have p:=(Xw o q T).2;have Ql:Em k y:=h.cop.of_dv ⟨f,λx=>by rw[l];grind⟩;have Qq:Em k f:=by
  obtain⟨u,v,K⟩:=Ql;refine⟨Xy u (Jv v (Xy e (Ji f))),Jv v (Ji k),λx=>?_⟩;have b:=K x;have a:ev y x=ev z x+ev (Ji w) x:=by rw[<-Q,Gw];grind
  have i:=LI f k x;rw[<-ek]at i;have M:=X x;rw[Xs,Jn,Jn,Xs];grind
 have Qj:Dv d (Jv (Ji d) f):=by
  refine⟨JO e (Ji f),λx=>?_⟩;have b:r=Jv d f:=E0 j (Ym _ _) λx=>by rw[Jn,A]
  have a:=LI d f x;rw[<-b,ee]at a;rw[Jn,Gw];grind
 have Qp:Em k d:=by
  obtain⟨q1,q2,s,t,q3⟩:=IQ tk L;obtain⟨c,B⟩:=fP L d0 Qj (d.length) (JH k d) (YP _ _) J q2 (Qq.of_dv q1);refine⟨Jv s c,Jv t c,λx=>?_⟩;have b:=B x;have a:=q3 x;have i:ev [1] x=1:=by simp[ev];grind
  rw[i]at b;rw[Jn,Jn];grind
 obtain⟨c1,c2,s,t,c3⟩:=IQ h.tw j;have Qk:Dv f (JH w r):=Sy h.tw j Qg ⟨d,λx=>by rw[A];grind⟩;have Qs:Dv (JH w r) f:=by
  obtain⟨u,v,K⟩:=Qp;refine c1.comb c2 u v λx=>?_;have b:=K x;rw[l,A];grind
 obtain⟨n,N⟩:=ex (J0 w P);rw[N]at m1 S eW p;have U:Jd n=n:=by rw[<-N];exact IM _ _
 have Qt:Dv f n:=by
  obtain⟨c,B⟩:=Qm;refine⟨c,λx=>?_⟩;have b:=XV (g:=P) (u:=n) (v:=Jv f c) o q (λx=>by
   have a:=p x;have i:=l x;have M:=B x;rw[Jn];grind)
  have a:=b x;rwa[Jn]at a
 have Qn:Dv n f:=by
  have k0:k≠[]:=λe2=>h.w0 (by rw[ek,e2];exact IR _);obtain⟨c,B⟩:=Qo;refine⟨c,λx=>?_⟩;have b:=XV (g:=k) (u:=f) (v:=Jv n c) tk k0 (λx=>by
   have a:=p x;have i:=l x;have M:=B x;rw[Jn];grind)
  have a:=b x;rwa[Jn]at a
 have hG:JH w r=n:=Dv.eq (YP _ _) U (LH h.tw j) m1 (Qs.trans Qt) (Qn.trans Qk);have Qr:Dv n w:=⟨P,λx=>by rw[p];grind⟩;have Qb:J0 w n=P:=by
  refine E0 (IM _ _) o λx=>?_;have b:=(Xw U S Qr).2;refine XV (g:=n) (u:=J0 w n) (v:=P) U S (λx=>?_) x;have a:=b x;have i:=p x;grind
 rw[hr,Q,m,N];refine⟨hG,by rw[hG];exact Qb,⟨j,r0,U,S,m1,IM _ _,λx=>?_,?_⟩,W,Qf,eW⟩
 . refine(XV (g:=P) (u:=Jv (J0 z P) r) (v:=Jv n (Ji r)) o q (λx=>?_) x |> λb=>by rwa[Jn,Jn]at b);have a:=Qf x;have i:=zP x;have M:=p x;rw[Jn,Jn];grind
 . have:=Sz h.tw V (by rw[m];exact q);rwa[m,N]at this
end
section
open Go.RowKit Go.Shelf
def Cd(M:Nat)(p:List Rat):Prop:=∃D:Int,D≠0/\Sm M D/\D7 D M p
section
variable {M N:Nat} {p q:List Rat}
theorem Cd.mono(h:Cd M p)(a:M<=N):Cd N p:=by
 obtain⟨D,d1,b,c⟩:=h;exact⟨D,d1,b.mono a,λi=>(c i).mono a⟩
theorem Cd.smq(h:Cd M p)(i:Nat):Da M (cf p i):=by
 obtain⟨D,d1,a,b⟩:=h;exact(b i).smq d1 a
theorem Cd.ln(h:Cd M p):Ln M p:=by
 obtain⟨D,d1,b,a⟩:=h;exact a.ln d1
theorem Cd.sqs(h:Cd M p)(a:M<=1000000000):Sqs p:=Sqs.of λi=>Sq.of (h.smq i) a
theorem Cd.pos(h:Cd M p):1<=M:=by
 obtain⟨D,d1,a,_⟩:=h;by_cases b:1<=M
 . exact b
 . exfalso
   obtain rfl:M=0:=J
   unfold Sm at a
   have:D.natAbs≠0:=Int.natAbs_ne_zero.2 d1
   simp at a;omega
theorem Cd.mon(h:Cd M p)(tp:Jd p=p):Cd M (JD p):=LD tp h.ln h.pos
theorem Cd.monS(h:Cd M p)(tp:Jd p=p)(b:M<=1000000000)(i:Nat):Sq (cf p i/cf p (p.length-1)):=by
 have a:=Ln.sqs tp h.ln h.pos i;unfold JD at a;rw[Y6,Fz,Rat.one_mul,<-Fz]at a;exact Sq.of a b
theorem Cd.dvn(h:Cd M p)(f:Cd M q)(g:cf q (q.length-1)=1):∃D E:Int,Dvn D E E M M p q:=by
 obtain⟨D,d1,c,d⟩:=h;obtain⟨E,a,b,e⟩:=f;exact⟨D,E,d1,c,d,a,b,e,a,b,by rw[g,Rat.divInt_self' a]⟩
theorem Cd.quo(h:Cd M p)(e:Cd M q)(b:cf q (q.length-1)=1):Cd ((p.length+1)*(M+1)) (J0 p q)/\Cd ((p.length+1)*(M+1)) (JU p q):=by
 obtain⟨D,E,d⟩:=h.dvn e b;obtain⟨m,b⟩:=ex (p.length-(q.length-1));have a:=d.den m;have c:=d.rem b;have f:m*(M+1)<=p.length*(M+1):=Ak _ J;have g:(p.length+1)*(M+1)=p.length*(M+1)+(M+1):=by rw[AA,Cw]
 exact⟨⟨_,a.1,a.2.mono J,λi=>(c.2 i).mono J⟩,⟨_,a.1,a.2.mono J,λi=>(c.1 i).mono J⟩⟩
end
variable{q:List Rat}
theorem TE(tq:Jd q=q)(q0:q≠[])(a:JD q=q):cf q (q.length-1)=1:=by
 have:=Md tq q0;rwa[a]at this
def Dk(p q:List Rat):List Rat:=if q=[]then []else J0 p q
theorem fR(p q:List Rat):Jd (Dk p q)=Dk p q:=by
 unfold Dk;split
 . rfl
 . exact IM _ _
theorem Cd.ov{M:Nat}{p:List Rat}(h:Cd M p)(b:Cd M q)(tq:Jd q=q)(c:JD q=q):Cd ((p.length+1)*(M+1)) (Dk p q):=by
 unfold Dk;split
 . refine(show Cd 1 []from Sj J).mono ?_
   have:1*1<=(p.length+1)*(M+1):=CO J J
   omega
 . rename_i a;exact(h.quo b (TE tq a c)).1
def Ka(p:List Rat):List Rat:=JD (Dk p (JH p (Ji p)))
namespace M3
variable{p q:List Rat}{K:Nat}
theorem Chn.ends(d:ChOk K p q):∀(n:Nat) (a b:List Rat),b.length<=n->Chn p q (Dc K p q) a b->∃r,Chn p q (Dc K p q) r []:=by
 intro n;induction n with
 |zero=>
  intro a b hl h;have c:b=[]:=MZ J;subst c;exact⟨a,h⟩
 |succ n e=>
  intro a b hl h;by_cases c:b=[]
  . subst c;exact⟨a,h⟩
  . have f:=Mm (a:=a) h.tb c;exact e b (Eg a b) J (Chn.next d.tp d.tq d.lp d.lq d.bd.2.2.1 h c)
theorem ChOk.gcd(a:ChOk K p q):Cd (Dc K p q) (JH p q):=by
 obtain⟨r,b⟩:=Chn.ends a _ _ _ (Aa _) (Chn.start a.tp a.tq a.lp a.lq a.bd.2.2.1);rw[<-b.gc,LB];exact LD b.ta b.wa.ln a.bd.2.2.2
theorem TF(M:Nat)(v:G)(p:List Rat)(w:F)(h:Jf w v p)(tp:Jd p=p)(b:Cd M p)(a:M<=1000000000):
 Calls H 26 #[v] w λe c=>∃u,e=.returned u/\Jf c u (JD p)/\Bl w c:=
 Ss v p w h (b.sqs a) tp λi=>b.monS tp a i
theorem fS(M:Nat)(a b:G)(p q:List Rat)(w:F)(d:Jf w a p)(f:Jf w b q)(hp:Cd M p)(hq:Cd M q)(tp:Jd p=p)(tq:Jd q=q)(j:JD q=q)(n:2*((p.length+3)*(M+1))<=1000000000):
 Calls H 22 #[a,b] w λe c=>∃u v,e=.returned (.tuple #[u,v,.bool (decide (q≠[]))])/\Jf c u (if q=[]then []else J0 p q)/\Jf c v (if q=[]then []else JU p q)/\Bl w c:=by
 have k:(p.length+3)*(M+1)=p.length*(M+1)+3*(M+1):=AA _ _ _;refine SH M a b p q w d f (hp.sqs J) hq.smq tp tq λq0=>?_;obtain⟨D,E,g⟩:=hp.dvn hq (TE tq q0 j);obtain⟨m,i⟩:=ex (p.length-(q.length-1));have l:m*(M+1)<=p.length*(M+1):=Ak _ J;rw[i];exact g.sizes J
attribute [local go_sem] Oper.semAt_some
theorem LJ(M:Nat)(S T:G)(p q:List Rat)(w:F)(t:Jf w S p)(y:Jf w T q)(hp:Cd M p)(hq:Cd M q)(tp:Jd p=p)(tq:Jd q=q)(R:JD q=q)(L:2*((p.length+3)*(M+1))<=1000000000):
 Calls H 46 #[S,T] w λe U=>∃u,e=.returned u/\Jf U u (Dk p q)/\Bl w U:=by
 obtain⟨j,la,k,rfl⟩:=t.form;obtain⟨l,lb,m,rfl⟩:=y.form;have r:=(((Mem.nil w).push (.cell 25 (C j la k)) (cs:=#[C j la k]) ⟨rfl,rfl⟩).push (.cell 25 (C l lb m)) (cs:=#[C l lb m]) ⟨rfl,rfl⟩).push (.cell 25 (C none 0 0)) (cs:=#[C none 0 0]) ⟨rfl,rfl⟩;simp only[A1]at r;obtain⟨W0,s⟩:=ex (((w.alloc (E #[C j la k] 25)).alloc (E #[C l lb m] 25)).alloc (E #[C none 0 0] 25));have B:=O s;have a:Hid (Mem w W0 [some (w.heap.size,.cell 25 (C j la k)),some (w.heap.size+1,.cell 25 (C l lb m)),some (w.heap.size+1+1,.cell 25 (C none 0 0))]):=O (by rw[<-s];exact r);have o:=O (fS M _ _ p q W0 (t.below a.o.2.2) (y.below a.o.2.2) hp hq tp tq R L);obtain⟨bq,N⟩:=ex (decide (q≠[]));rw[N,show(if q=[]then []else J0 p q)=Dk p q from rfl]at o;have c0:=(a.o.cell (i:=0) rfl).1.cell;have c1:=(a.o.cell (i:=1) rfl).1.cell;have X:=(a.o.cell (i:=2) rfl).1;have A:=O a.o.2.2;clear r s t y hp hq tp tq R L N a;go_enter Tryz.func46,Tryz.ntmps46
 go_upto_region 1 with fail
 rw[B.o];clear B;go_upto_region 2 with(go_at_call 22;refine o.o.mono ?_;clear o;rintro e n ⟨u4,v4,rfl,z,P,f⟩;obtain⟨b,c,c4,rfl⟩:=z.form;obtain⟨D,Q,K,rfl⟩:=P.form)
 have d:Bl n ((n.alloc (E #[C b c c4] 25)).alloc (E #[C D Q K] 25)):=(Ba n _).alloc (by rw[A1];omega) _;have nb:=(BM n 25 (C b c c4)).alloc (E #[C D Q K] 25);have e5:=nb.cell;have g:=boxed_below (boxed_below X f) d;have x0:=g.cell;have x1:=g.frozen;have W:=O (LE g (x:=C b c c4) (z.below d));have V:=O (((Bt A.o f).trans (d.mono (As A.o.size f.size))).setCell (p:=⟨w.heap.size+1+1,0,none⟩) (by show w.heap.size<=w.heap.size+1+1;omega) (C b c c4));clear c0 c1 z P f nb g d;go_wp2_with fail
 exact BA (v:=.agg #[C b c c4]) (by simp[results,Tryz.results46,go_sem,x0]) rfl ⟨_,rfl,W.o,V.o⟩
structure FrOk(K:Nat)(p:List Rat):Prop where
 ch:ChOk K p (Ji p)
 le:(p.length+3)*(Dc K p (Ji p)+1)*2<=1000000000
theorem FrOk.cd(h:FrOk K p):Cd (Dc K p (Ji p)) p:=(show Cd K p from h.ch.cp).mono (by have:=Hd K p (Ji p);omega)
theorem FrOk.sl(h:FrOk K p)(i:Nat):Sq (IK p i):=by
 have b:=(show Cd K (Ji p)from h.ch.cq).sqs h.ch.bd.2.1;have a:=b.at i;unfold Ji at a;rwa[JR,I5]at a
theorem fT(K:Nat)(v:G)(p:List Rat)(w:F)(h:Jf w v p)(m:FrOk K p):
 Calls H 16 #[v] w λe w'=>∃u,e=.returned u/\Jf w' u (Ka p)/\Bl w w':=by
 have Qi:Tryz.prog.follows .mixedOrders=true:=by kernel_rfl
 obtain⟨j,la,k,rfl⟩:=h.form;have M0:=((Mem.nil w).push (.cell 25 (C j la k)) (cs:=#[C j la k]) ⟨rfl,rfl⟩).push (.poly []) (cs:=#[C none 0 0]) (He _);simp only[A1]at M0;obtain⟨W0,ae⟩:=ex ((w.alloc (E #[C j la k] 25)).alloc (E #[C none 0 0] 25));have Qc:=O ae;have h9:=m.le;have h8:=m.ch.bd;have h7:(p.length+3)*(Dc K p (Ji p)+1)=(p.length+1)*(Dc K p (Ji p)+1)+2*(Dc K p (Ji p)+1):=by rw[<-AA]
 have Qa:=m.ch.gcd;have Qb:=LH m.ch.tp m.ch.tq;obtain⟨Qe,Qj,Qf,Qd⟩:=D5 (λ(V:F) (P:Bl w V)=>OZ (.agg #[C j la k]) p V (h.below P) (m.cd.sqs h8.1) m.sl) (λ(V:F) (P:Bl w V) (y:G) (R:Jf V y (Ji p))=>LG K (.agg #[C j la k]) y p (Ji p) V (h.below P) R m.ch) (λ(V:F) (P:Bl w V) (y:G) (R:Jf V y (JH p (Ji p)))=>LJ (Dc K p (Ji p)) (.agg #[C j la k]) y p (JH p (Ji p)) V (h.below P) R m.cd Qa m.ch.tp (YP _ _) Qb J) λ(V:F) (y:G) (R:Jf V y (Dk p (JH p (Ji p))))=>TF ((p.length+1)*(Dc K p (Ji p)+1)) y (Dk p (JH p (Ji p))) V R (fR _ _) (m.cd.ov Qa (YP _ _) Qb) J;rw[show JD (Dk p (JH p (Ji p)))=Ka p from rfl]at Qd;have M1:Hid (Mem w W0 [some (w.heap.size,.cell 25 (C j la k)),some (w.heap.size+1,.poly ([]))]):=O (by rw[<-ae];exact M0);clear M0 ae h m h9 h8 h7 Qa Qb;go_enter Tryz.func16,Tryz.ntmps16
 go_upto_region 1 with fail
 rw[Qc.o];clear Qc;refine Jp Qi [[],[],[],[2],[1,3,3],[0,4,4],[5,5],[6,6,0,1,2,3,4,5,6]] (by kernel_rfl) DQ
  (λD ad V=>∃(ta tb T U W X tg:G) (S:Option (Nat × Dat)),ad={ tmps:=#[.agg #[C j la k],.pointer (some ⟨w.heap.size,0,none⟩),.pointer (some ⟨w.heap.size+1,0,none⟩),ta,tb,T,U,W,X,tg],defers:=[] }/\Hid ((D 0=true->ta=.agg #[C j la k])/\(D 1=true->tb=.agg #[C j la k])/\(D 2=true->T=.agg #[C j la k])/\(D 3=true->Has V U (.poly (Ji p)))/\(D 4=true->Has V W (.poly (JH p (Ji p))))/\(D 5=true->Has V X (.poly (Dk p (JH p (Ji p)))))/\(D 6=true->Has V tg (.poly (Ka p)))/\((D 7=false->S=some (w.heap.size+1,.poly ([])))/\(D 7=true->S=some (w.heap.size+1,.poly (Ka p)))))/\Hid (Mem w V [some (w.heap.size,.cell 25 (C j la k)),S]))
  ⟨_,_,_,_,_,_,_,_,rfl,O ⟨Y,Y,Y,Y,Y,Y,Y,⟨λ_=>rfl,Y⟩⟩,O (M1.o).drew⟩ ?step1 ?fin1
 case step1=>
  rintro D ad V i ds ah hi g af ⟨ta,tb,T,U,W,X,tg,S,rfl,b,f⟩;have ai:i<8:=(Ad.1 hi).1;obtain rfl|rfl|rfl|rfl|rfl|rfl|rfl|rfl:=LN i J
  all_goals
   simp only[Af,Ae,Ah]at hi;subst hi
  . have e0:=(f.o.cell (i:=0) rfl).1.cell;clear g;refine Za ?_;exact⟨_,_,_,_,_,_,_,_,rfl,(Di b),O (f.o)⟩
  . have e0:=(f.o.cell (i:=0) rfl).1.cell;clear g;refine Za ?_;exact⟨_,_,_,_,_,_,_,_,rfl,(Dl b),O (f.o)⟩
  . have e0:=(f.o.cell (i:=0) rfl).1.cell;clear g;refine Za ?_;exact⟨_,_,_,_,_,_,_,_,rfl,(Df b),O (f.o)⟩
  . obtain rfl:=(b.o.2.2.1 (g 2 Y));have L:=O (Qe.o V f.o.2.2);clear g;refine Jb rfl rfl λK hK=>?_;go_simp;go_wp2_with(go_at_call 24;refine L.o.mono ?_;rintro e w5 ⟨v5,rfl,M,d⟩)
    obtain⟨o,q,_,_,x,z,A,B⟩:=b.o;exact⟨_,_,_,_,_,_,_,_,rfl,O ⟨o,q,λ_=>rfl,λ_=>M,λh=>(x h).below d,λh=>(z h).below d,λh=>(A h).below d,B⟩,O (f.o.below d)⟩
  . obtain rfl:=(b.o.2.1 (g 1 Y));have N:=(b.o.2.2.2.1 (g 3 Y));have L:=O (Qj.o V f.o.2.2 _ N);clear g N;refine Jb rfl rfl λK hK=>?_;go_simp;go_wp2_with(go_at_call 8;refine L.o.mono ?_;rintro e w5 ⟨v5,rfl,M,d⟩)
    obtain⟨o,_,s,t,_,z,A,B⟩:=b.o;exact⟨_,_,_,_,_,_,_,_,rfl,O ⟨o,λ_=>rfl,s,λh=>(t h).below d,λ_=>M,λh=>(z h).below d,λh=>(A h).below d,B⟩,O (f.o.below d)⟩
  . obtain rfl:=(b.o.1 (g 0 Y));have N:=(b.o.2.2.2.2.1 (g 4 Y));have L:=O (Qf.o V f.o.2.2 _ N);clear g N;refine Jb rfl rfl λK hK=>?_;go_simp;go_wp2_with(go_at_call 46;refine L.o.mono ?_;rintro e w5 ⟨v5,rfl,M,d⟩)
    obtain⟨_,q,s,t,x,_,A,B⟩:=b.o;exact⟨_,_,_,_,_,_,_,_,rfl,O ⟨λ_=>rfl,q,s,λh=>(t h).below d,λh=>(x h).below d,λ_=>M,λh=>(A h).below d,B⟩,O (f.o.below d)⟩
  . have h0:=((Do b) (g 5 Y));have L:=O (Qd.o V _ h0);clear g h0;refine Jb rfl rfl λK hK=>?_;go_simp;go_wp2_with(go_at_call 26;refine L.o.mono ?_;rintro e w5 ⟨v5,rfl,M,d⟩)
    obtain⟨o,q,s,t,x,z,_,B⟩:=b.o;exact⟨_,_,_,_,_,_,_,_,rfl,O ⟨o,q,s,λh=>(t h).below d,λh=>(x h).below d,λh=>(z h).below d,λ_=>M,B⟩,O (f.o.below d)⟩
  . obtain rfl:=D9 b af;have hv:=((Du b) (g 6 Y));obtain⟨a1,l1,c1,rfl⟩:=Jf.form (show Jf V _ _ from hv);obtain⟨a,l,c,n,r⟩:=f.o.poly2 (i:=1) rfl;have e0:=n.cell;have f0:=n.frozen;clear g;refine Za ?_;obtain⟨o,q,s,t,x,z,A,_⟩:=b.o;exact⟨_,_,_,_,_,_,_,_,rfl,O ⟨o,q,s,λh=>(t h).set1 n rfl _,λh=>(x h).set1 n rfl _,λh=>(z h).set1 n rfl _,λh=>(A h).set1 n rfl _,⟨λh=>by simp at h,λ_=>rfl⟩⟩,O (f.o.putPoly (i:=1) rfl hv)⟩
 rintro D ad V2 Q ⟨ta,tb,T,U,W,X,tg,S,rfl,b,f⟩;obtain rfl:=b.o.2.2.2.2.2.2.2.2 (Q 7 DQ);obtain rfl:=b.o.1 (Q 0 DQ);obtain rfl:=b.o.2.1 (Q 1 DQ);obtain rfl:=b.o.2.2.1 (Q 2 DQ);clear b Q M1;have M2:Hid (Mem w V2 [some (w.heap.size,.cell 25 (C j la k)),some (w.heap.size+1,.poly (Ka p))]):=f;clear f;obtain⟨a3,l3,c3,n3,r3⟩:=M2.o.poly2 (i:=1) rfl;have Qh:=n3.cell;have Qg:=O M2.o.2.2;go_wp2_with fail
 exact BA (v:=.agg #[C a3 l3 c3]) (by simp[results,Tryz.results16,go_sem,Qh]) rfl ⟨_,rfl,r3,Qg.o⟩
end M3
end
open Go.RowKit Go.Shelf
variable{r:Bool}{L:List (List Rat × Nat)}{p:List Rat}{cs:List G}{B base c l t:Nat}{a:Option Addr}{v:G}{W W':F}
theorem Tryz.infoPart:(Tryz.prog.info? 44).map (λi=>(i.zero,i.size,i.bytes))=some (some (.agg #[C none 0 0,I .i64 0]),2,32):=by kernel_rfl
theorem Tryz.infoRPart:(Tryz.prog.info? 46).map (λi=>(i.zero,i.size,i.bytes))=some (some (.agg #[C none 0 0,I .i64 0]),2,32):=by kernel_rfl
def EJ(r:Bool):TypeId:=match r with|true=>44|false=>46
def Gt(r:Bool):TypeId:=match r with|true=>39|false=>41
def zP:Array G:=#[C none 0 0,.int .i64 0]
theorem fU(r:Bool):Tryz.prog.underlying (Gt r)=some (.slice (EJ r)):=by
 cases r with
 |true=>exact Tryz.underlying39
 |false=>exact Tryz.underlying41
theorem fV(r:Bool):∃i,Tryz.prog.info? (EJ r)=some i/\i.zero=some (.agg zP)/\i.size=2/\i.bytes=32:=by
 cases r with
 |true=>
  obtain⟨i,a,b,c,d⟩:=Bo Tryz.infoPart;exact⟨i,a,b,c,d⟩
 |false=>
  obtain⟨i,a,b,c,d⟩:=Bo Tryz.infoRPart;exact⟨i,a,b,c,d⟩
def Hg(r:Bool)(W W':F):Prop:=∀B,B<W.heap.size->(∀cs m,W.heap[B]?≠some (E cs (EJ r) m))->W'.heap[B]?=W.heap[B]?
theorem Hg.at(h:Hg r W W'){cs:Array G}{t:TypeId}{m:Nat × Nat}(a:W.heap[B]?=some (E cs t m))(b:t≠EJ r):W'.heap[B]?=W.heap[B]?:=
 h B (Ab.1 a).1 λc d e=>by
  rw[a]at e;simp only[Ah,Bu]at e;exact b e.2.1
theorem fW(k:IntKind)(r:Bool):NN k≠EJ r:=by cases r<;>cases k<;>decide
theorem fX(k:Bool)(r:Bool):EA k≠EJ r:=by cases r<;>cases k<;>decide
theorem Hg.row(h:Hg r W W'){k:IntKind}{ds:List Nat}(t:Row k W v ds):Row k W' v ds:=by
 obtain⟨a,c,e,l,n,o,d⟩:=t;refine⟨a,c,e,l,n,o,?_⟩;rcases d with d|⟨b,off,i,g,q⟩
 . exact Or.inl d
 . obtain⟨cs,m,p⟩:=id g;have f:=h.at p (fW k r);refine Or.inr ⟨b,off,i,g.of f,λj s=>?_⟩;rw[<-q j s];simp only[World.cell?,f]
theorem Hg.rowK(h:Hg r W W'){k:Bool}{qs:List Rat}(A:RowK k W v qs):RowK k W' v qs:=by
 obtain⟨a,cap,e,o,p,q,c⟩:=A;refine⟨a,cap,e,o,p,q,?_⟩;rcases c with c|⟨b,n,cs,d,t⟩
 . exact Or.inl c
 . refine Or.inr ⟨b,n,cs,(h.at d (fX k r)).trans d,λj w=>?_⟩;obtain⟨x,y,z,u,f,i,l,m,s⟩:=t j w;exact⟨x,y,z,u,f,i,l,m,s.keep λ_ _ _ g=>h.row g⟩
def Ga(r:Bool)(W:F)(cs:List G)(L:List (List Rat × Nat)):Prop:=
 cs.length=L.length*2/\∀j p t,L[j]?=some (p,t)->∃x,cs[j*2]?=some x/\cs[j*2+1]?=some (.int .i64 (t:Int))/\RowK r W x p
theorem Ga.keep(h:Ga r W cs L)(d:∀v qs,RowK r W v qs->RowK r W' v qs):Ga r W' cs L:=by
 refine⟨h.1,λj p t e=>?_⟩;obtain⟨x,a,b,c⟩:=h.2 j p t e;exact⟨x,a,b,d _ _ c⟩
theorem Ga.below{r:Bool}{W W':F}{cs:List G}{L:List (List Rat × Nat)}(h:Ga r W cs L)(a:Bl W W'):Ga r W' cs L:=h.keep λ_ _ g=>g.below a
theorem Ga.snoc(h:Ga r W cs L){x:G}(k:RowK r W x p):Ga r W (cs++[x,I .i64 (t:Int)]) (L++[(p,t)]):=by
 refine⟨by simp[h.1];omega,λj l m e=>?_⟩;by_cases i:j<L.length
 . rw[AJ i]at e;obtain⟨y,b,c,f⟩:=h.2 j l m e;exact⟨y,by rw[AJ (by have:=h.1;omega)];exact b,by rw[AJ (by have:=h.1;omega)];exact c,f⟩
 . rw[AC J]at e;obtain⟨d,g⟩:=ex (j-L.length);rw[g]at e;cases d with
   |succ d=>simp at e
   |zero=>
    simp at e;obtain⟨rfl,rfl⟩:=e;have a:j=L.length:=J
    subst a;refine⟨x,?_,?_,k⟩
    . rw[AC (by have:=h.1;omega),h.1,A3];rfl
    . rw[AC (by have:=h.1;omega),h.1,show L.length*2+1-L.length*2=1 by omega];rfl
def EY(r:Bool)(base:Nat)(W:F)(v:G)(L:List (List Rat × Nat)):Prop:=
 (v=C none 0 0/\L=[])\/∃g cap a,v=C (some ⟨g,0,none⟩) L.length cap/\base<=g/\W.heap[g]?=some (E a (EJ r) (0,0))/\L.length<=cap/\cap<=maxLen/\a.size=cap*2/\Ga r W (a.toList.take (L.length*2)) L
theorem EY.nil(r:Bool)(base:Nat)(W:F):EY r base W (C none 0 0) []:=Or.inl ⟨rfl,rfl⟩
theorem EY.below{r:Bool}{base:Nat}{W W':F}{v:G}{L:List (List Rat × Nat)}(h:EY r base W v L)(b:Bl W W'):EY r base W' v L:=by
 rcases h with h|⟨g,cap,c,d,e,a,f,i,j,k⟩
 . exact Or.inl h
 . exact Or.inr ⟨g,cap,c,d,e,(b.block g (Ab.1 a).1).trans a,f,i,j,k.below b⟩
theorem EY.form(h:EY r base W v L):∃a c,v=C a L.length c/\L.length<=c/\c<=maxLen:=by
 rcases h with⟨rfl,rfl⟩|⟨g,cap,e,rfl,_,_,b,d,_⟩
 . exact⟨none,0,rfl,Y,by unfold maxLen;omega⟩
 . exact⟨_,cap,rfl,b,d⟩
theorem EY.set(h:EY r base W v L)(b:Boxed W B 25 (C a l c)){u:G}(s:∀v qs,RowK r W v qs->RowK r (W.setCell ⟨B,0,none⟩ u) v qs):EY r base (W.setCell ⟨B,0,none⟩ u) v L:=by
 rcases h with h|⟨g,cap,i,j,k,d,m,n,o,p⟩
 . exact Or.inl h
 . have f:g≠B:=λe=>by
    subst e;have q:W.heap[g]?=some (E #[C a l c] 25 (0,0)):=b;rw[q]at d;simp only[Ah,Bu]at d;have:=d.2.1;revert this;cases r<;>decide
   exact Or.inr ⟨g,cap,i,j,k,(BC W ⟨B,0,none⟩ u g f).trans d,m,n,o,p.keep s⟩
theorem fY(r:Bool)(base:Nat)(W:F)(v:G)(L:List (List Rat × Nat))(h:EY r base W v L)(hx:RowK r W (C a l c) p)(hl:L.length+1<=1099511627776)(S:base<=W.heap.size):
 ∃v' z,(Builtin.append_ #[Gt r,Gt r] (Gt r) #[v,C (some ⟨W.heap.size,0,none⟩) 1 1]).run H (W.alloc (E #[C a l c,I .i64 (t:Int)] (EJ r)))=.ok v' z/\EY r base z v' (L++[(p,t)])/\Hg r W z/\(∀n w0,n<=base->Below n w0 W->Below n w0 z)/\W.heap.size<=z.heap.size:=by
 obtain⟨i,U,hz,y,ae⟩:=fV r;have V:=fU r;have k:Bl W (W.alloc (E #[C a l c,I .i64 (t:Int)] (EJ r))):=Ba W _;obtain⟨b,ad⟩:=ex (W.alloc (E #[C a l c,I .i64 (t:Int)] (EJ r)));have Qf:b.heap[W.heap.size]?=some (E #[C a l c,I .i64 (t:Int)] (EJ r) (0,0)):=by rw[<-ad];exact BD W _
 rw[ad]at k ⊢;have Ql:=hx.below k;have K:∀j c',[Value.slice a l c,I .i64 (t:Int)][j]?=some c'->b.cell? ((⟨W.heap.size,0,none⟩:Addr).add j)=some c':=λj c' f=>by
  rw[Y4,A8];exact cell_of Qf (by simpa using f)
 have Qh:∀c'∈[Value.slice a l c,I .i64 (t:Int)],c'.oneCell'=true:=λc' f=>by
  simp at f;rcases f with rfl|rfl<;>rfl
 have Qk:(Value.agg zP).cells=zP:=rfl;have Qp:zP.size=2:=rfl;have grown:∀(cs:List G) (w:Nat) (m:Nat),m=L.length+1->Ga r b (cs++[C a l c,I .i64 (t:Int)]) (L++[(p,t)])->cs.length=L.length*2->
  EY r base (b.drew.alloc (E (cs.toArray++[Value.slice a l c,I .i64 (t:Int)].toArray++Builtin.zeroCells zP (grownCap b m w (EJ r)-m)) (EJ r))) (C (some ⟨b.heap.size,0,none⟩) m (grownCap b m w (EJ r))) (L++[(p,t)]):=by
  intro cs w m hm f x;subst hm;have Qm:=grownCap_ge b (L.length+1) w (EJ r);have Qq:=grownCap_le_maxLen b (L.length+1) w (EJ r) (by unfold maxLen;omega);have Qr:Bl b (b.drew.alloc (E (cs.toArray++[Value.slice a l c,I .i64 (t:Int)].toArray++Builtin.zeroCells zP (grownCap b (L.length+1) w (EJ r)-(L.length+1))) (EJ r))):=((BB _ b).drew).alloc (Aa _) _;refine Or.inr ⟨b.heap.size,_,_,by rw[Ai];rfl,As S k.size,BD b.drew _,by rw[Ai];exact Qm,Qq,?_,?_⟩
  . simp only[Array.size_append,Ao,size_zeroCells,Qp,x,An,AD];omega
  . have e:(cs.toArray++[Value.slice a l c,I .i64 (t:Int)].toArray++Builtin.zeroCells zP (grownCap b (L.length+1) w (EJ r)-(L.length+1))).toList.take ((L++[(p,t)]).length*2)=cs++[C a l c,I .i64 (t:Int)]:=by
     simp only[Array.toList_append];have M:(L++[(p,t)]).length*2=(cs++[Value.slice a l c,I .i64 (t:Int)]).length:=by simp;omega
     rw[M];exact List.take_left
    rw[e];exact f.below Qr
 have fin:∀o,Hg r W (b.drew.alloc o)/\(∀n w0,n<=base->Below n w0 W->Below n w0 (b.drew.alloc o))/\W.heap.size<=(b.drew.alloc o).heap.size:=λo=>by
  have N:Bl W (b.drew.alloc o):=(k.drew).alloc (by exact k.size) _;exact⟨λB D _=>N.block B D,λn w0 u R=>R.trans (N.mono (As u S)),N.size⟩
 rcases h with⟨rfl,rfl⟩|⟨g,cap,d,rfl,h2,Q,h4,h5,h6,h7⟩
 . have s:=run_append_nil (P:=H) b (Gt r) (Gt r) (EJ r) i _ V U hz ⟨W.heap.size,0,none⟩ 1 1 [C a l c,I .i64 (t:Int)] (by rw[y];rfl) K J J (by rw[ae];omega);rw[Qk]at s;refine⟨_,_,s,?_,fin _⟩;have:=grown [] 0 1 rfl (by rw[Ap];exact Ga.snoc (cs:=[]) (L:=[]) ⟨rfl,λj p t e=>by simp at e⟩ Ql) rfl;simpa using this
 . have A:b.heap[g]?=some (E d (EJ r) (0,0)):=(k.block g (Ab.1 Q).1).trans Q;have x:(d.toList.take (L.length*2)).length=L.length*2:=by rw[Al];have h0:d.toList.length=d.size:=CH;omega
   have X:=(h7.below k).snoc (t:=t) Ql;by_cases af:L.length+1<=cap
   . have s:=run_append_room (P:=H) b (Gt r) (Gt r) (EJ r) i V U g L.length cap d A ⟨W.heap.size,0,none⟩ 1 1 [C a l c,I .i64 (t:Int)] (by rw[y];rfl) K Qh af (by rw[y];simp;omega);rw[y]at s;obtain⟨q,T⟩:=ex ((d.toList.take (L.length*2)++[Value.slice a l c,I .i64 (t:Int)]++d.toList.drop (L.length*2+[Value.slice a l c,I .i64 (t:Int)].length)).toArray);rw[T]at s;have Qo:=setRow_heap b g d q (EJ r) (0,0) A;have Qd:Hg r b (b.setRow g q):=λB D u=>setRow_other b g B q λe=>u d (0,0) (by rw[e];exact A);have Qg:b.heap.size<=(b.setRow g q).heap.size:=(below_setRow (B:=0) (BB _ b) (AK _) q).size;refine⟨_,_,s,?_,λB D u=>?_,λn w0 u R=>below_setRow (R.trans (k.mono (As u S))) (As u h2) q,As k.size Qg⟩
     . refine Or.inr ⟨g,cap,q,by rw[Ai];rfl,h2,Qo,by rw[Ai];exact af,h5,?_,?_⟩
       . rw[<-T];simp only[Ao,Ai,AV,x,An,AD];have h0:d.toList.length=d.size:=CH;omega
       . have e:q.toList.take ((L++[(p,t)]).length*2)=d.toList.take (L.length*2)++[C a l c,I .i64 (t:Int)]:=by
          rw[<-T];have M:(L++[(p,t)]).length*2=(d.toList.take (L.length*2)++[Value.slice a l c,I .i64 (t:Int)]).length:=by simp[x];omega
          rw[M];exact List.take_left
         rw[e];exact X.keep λ_ _ g=>Qd.rowK g
     . have Qn:B≠g:=λe=>u d (0,0) (by rw[e];exact Q);exact(setRow_other b g B q Qn).trans (k.block B D)
   . have ah:∀j c',(d.toList.take (L.length*2))[j]?=some c'->b.cell? ((⟨g,0,none⟩:Addr).add j)=some c':=λj c' f=>by
      rw[Y4,A8];rw[Fq]at f;split at f
      . rw[Cj]at f;exact cell_of A f
      . cases f
     have s:=run_append_grow (P:=H) b (Gt r) (Gt r) (EJ r) i _ V U hz ⟨g,0,none⟩ L.length cap (d.toList.take (L.length*2)) (by rw[y];exact x) ah ⟨W.heap.size,0,none⟩ 1 1 [C a l c,I .i64 (t:Int)] (by rw[y];rfl) K J J (by rw[ae];exact growslice_fits J J);rw[Qk]at s;exact⟨_,_,s,grown _ cap _ rfl X x,fin _⟩
namespace M3
theorem Mem.farP{w W W':F}{bs:List (Option (Nat × Dat))}{r:Bool}(M:Mem w W bs)(a:Hg r W W')(e:Bl w W')(f:∀(i:Nat) B d,bs[i]?=some (some (B,d))->d.ty≠EJ r):Mem w W' bs:=by
 refine⟨λi B d h=>?_,M.2.1,e⟩;obtain⟨⟨cs,b,c⟩,j⟩:=M.1 i B d h;exact⟨⟨cs,(a.at b (f i B d h)).trans b,c.keep (λ_ _ _ g=>a.row g) (Or.inr λ_ _ g=>a.rowK g)⟩,j⟩
end M3

