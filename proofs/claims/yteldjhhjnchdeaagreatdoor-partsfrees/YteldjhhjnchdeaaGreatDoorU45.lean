import Derived.Test.YteldjhhjnchdeaaGreatDoorU44
open Go.Value renaming slice->C,int->I
open Go renaming World->F,Value->G
open Go.Proofs.Tryz renaming prog->H
open Go.Obj renaming cells->E
set_option maxRecDepth 100000
set_option maxHeartbeats 16000000
namespace Go.Proofs.YteldjhhjnchdeaaGreatDoor
namespace M3
open Go.RowKit Go.Shelf
attribute [local go_sem] Oper.semAt_some
def KZ(w V:F)(a:G)(ps:List Rat):Prop:=RowK false V a ps/\Bl w V
theorem KZ.below{w V V':F}{b:G}{ps:List Rat}(h:KZ w V b ps)(a:Bl V V'):KZ w V' b ps:=⟨h.1.below a,Bt h.2 a⟩
variable{a p q:List Rat}{K:Nat}
theorem fD(c:Rat):((1:Int):Rat)/c=1/c:=rfl
theorem Sw(va:G)(ps:List Rat)(w:F)(o:RowK false w va ps)(ah:Jd ps=ps)(ae:Sqs ps)(af:ps≠[]->Sq (1/cf ps (ps.length-1)))(ay:ps.length<1099511627776):
 Calls H 40 #[va] w λe w'=>∃u,e=.returned u/\RowK false w' u (JC ps)/\Bl w w':=by
 have Qi:Tryz.prog.follows .mixedOrders=true:=by kernel_rfl
 obtain⟨a,la,ca,rfl⟩:=o.form;obtain⟨aw,az,bc,bi,s,t,aa,bb,ll,cc,kk,dd,hc⟩:=o.formsF;by_cases j:ps=[]
 . have Qf:la=0:=by rw[aw,j];rfl
   have HA:=O (show RowK false w (C a la ca) (JC ps)by rw[j]at o ⊢;exact o);clear o hc ae af ah j;go_enter Tryz.func40,Tryz.ntmps40
   go_wp2_with fail
   go_ret;exact⟨_,rfl,HA.o,BB _ _⟩
 . have Qf:¬(la:Int)=0:=by have:=Al.2 j;omega
   obtain⟨m,hm⟩:=ex (la-1:Nat);have bj:(la:Int)-1=(m:Int):=J
   have bk:IntKind.i64.wrap (m:Int)=(m:Int):=by rw[BS];omega
   have bm:(m:Int)<(la:Int):=J
   have P:ps.length-1=m:=J
   obtain⟨aq,g,rfl,L,ai,aj,ak,am⟩:=hc m J;have Qj:=O (show ∀V,Bl w V->(V.cell? ⟨g,m*4,none⟩=some (C (aa m) (ll m) (cc m))/\V.cell? ⟨g,m*4+1,none⟩=some (.bool (s m))/\V.cell? ⟨g,m*4+2,none⟩=some (C (bb m) (kk m) (dd m))/\V.cell? ⟨g,m*4+3,none⟩=some (.bool (t m)))/\Js V (.agg #[C (aa m) (ll m) (cc m),.bool (s m),C (bb m) (kk m) (dd m),.bool (t m)]) (cf ps m)from λV B=>by
    exact⟨⟨(B.cell (p:=⟨g,_,none⟩) L).trans ai,(B.cell (p:=⟨g,_,none⟩) L).trans aj,(B.cell (p:=⟨g,_,none⟩) L).trans ak,(B.cell (p:=⟨g,_,none⟩) L).trans am⟩,aq.below B⟩)
   obtain⟨Qg,Qe,Qk,Qd,Qh⟩:=GY (show cf ps m≠0 by rw[<-P];exact JA ah j) (show Sq (1/cf ps m)by rw[<-P];exact af j) (show Jd (Yp (1/cf ps m) ps)=JC ps by unfold JC Dd;rw[P]) ae ay;have Q:KZ w w.drew (C (some ⟨g,0,none⟩) la ca) ps:=KZ.below ⟨o,BB _ _⟩ ((BB _ w).drew);have HX:=O Q;clear o hc aq L ai aj ak am ae af ah j P aw az bc ay Q;go_enter Tryz.func40,Tryz.ntmps40
   go_upto_region 3 with fail
   obtain⟨bz,ap⟩:=ex (((la:Int)==0));rw[ap];clear ap;have Q:=HX.o;refine Jn Qi [[],[],[],[],[3],[4],[2,5],[6],[1,7,1],[0,8,8],[9,9,0,1,2,3,4,5,6,7,8,9]] (by kernel_rfl) DQ
    (λD ad V=>∃(X tk tl ta tb R S T U W N:G),ad={ tmps:=#[C (some ⟨g,0,none⟩) la ca,undef,N,C (some ⟨g,0,none⟩) la ca,I .i64 ↑la,.bool bz,undef,X,tk,tl,ta,tb,R,S,T,U,W],defers:=[] }/\Hid ((D 0=true->X=C (some ⟨g,0,none⟩) la ca)/\(D 1=true->Js V tk ((1:Int):Rat))/\(D 2=true->tl=C (some ⟨g,0,none⟩) la ca)/\(D 3=true->ta=C (some ⟨g,0,none⟩) la ca)/\(D 4=true->tb=I .i64 (la:Int))/\(D 5=true->R=I .i64 (m:Int))/\(D 6=true->S=.pointer (some ⟨g,m*4,none⟩))/\(D 7=true->Js V T (cf ps m))/\(D 8=true->Js V U (1/cf ps m))/\(D 9=true->RowK false V W (JC ps))/\(D 10=true->RowK false V N (JC ps)))/\Hid (KZ w V (C (some ⟨g,0,none⟩) la ca) ps))
    (E8 ⟨_,_,_,rfl,O ⟨Y,Y,Y,Y,Y,Y,Y,Y,Y,Y,Y⟩,O Q⟩) ?step1 ?fin1
   case step1=>
    rintro D ad V i ds bg hi d bf ⟨X,tk,tl,ta,tb,R,S,T,U,W,N,rfl,c,b⟩;have bh:i<11:=(Ad.1 hi).1;obtain rfl|rfl|rfl|rfl|rfl|rfl|rfl|rfl|rfl|rfl|rfl:=GJ i J
    all_goals
     simp only[Af,Ae,Ah]at hi;subst hi
    . have l:=b.o;clear d;refine DV ?_;exact⟨(Dh c),O (b.o)⟩
    . have l:=b.o;clear d;have n:=O (I0 1 J J V);refine Jb rfl rfl λK hK=>?_;go_simp;go_wp2_with(go_at_call 42;refine n.o.mono ?_;rintro e w5 ⟨v5,rfl,M,f⟩)
      obtain⟨G0,_,r,v,x,y,z,A,G8,G9,q⟩:=c.o;exact E8 ⟨_,_,_,rfl,O ⟨G0,λ_=>M,r,v,x,y,z,λh=>(A h).below f,λh=>(G8 h).below f,λh=>(G9 h).below f,λh=>(q h).below f⟩,O (b.o.below f)⟩
    . have l:=b.o;clear d;refine DV ?_;exact⟨(Df c),O (b.o)⟩
    . have l:=b.o;clear d;refine DV ?_;exact⟨(Dj c),O (b.o)⟩
    . have l:=b.o;obtain rfl:=c.o.2.2.2.1 (d 3 Y);clear d;refine DV ?_;exact⟨(D9 (Dj c)),O (b.o)⟩
    . have l:=b.o;obtain rfl:=c.o.2.2.2.2.1 (d 4 Y);clear d;refine DV ?_;exact⟨(EE (D9 c)),O (b.o)⟩
    . have l:=b.o;obtain rfl:=c.o.2.2.1 (d 2 Y);obtain rfl:=Dl c (d 5 Y);clear d;refine DV ?_;exact⟨(D6 (EE (Df c))),O (b.o)⟩
    . have l:=b.o;obtain rfl:=Dq c (d 6 Y);obtain⟨⟨e0,e1,e2,e3⟩,hr⟩:=Qj.o V l.2;clear d;refine DV ?_;exact⟨(EN (D6 c) λ_=>hr),O (b.o)⟩
    . have l:=b.o;have j:=c.o.2.1 (d 1 Y);have h1:=Dw c (d 7 Y);clear d;have n:=O (RW _ _ ((1:Int):Rat) (cf ps m) V j h1 (Sq.of (k:=1) ⟨Sm.one 1 J,Sm.one 1 J⟩ J) (Qd.o.at m) Qg.o);rw[fD]at n;clear j h1;refine Jb rfl rfl λK hK=>?_;go_simp;go_wp2_with(go_at_call 77;refine n.o.mono ?_;rintro e w5 ⟨v5,rfl,M,f⟩)
      obtain⟨G0,G1,r,v,x,y,z,A,_,G9,q⟩:=c.o;exact E8 ⟨_,_,_,rfl,O ⟨G0,λh=>(G1 h).below f,r,v,x,y,z,λh=>(A h).below f,λ_=>M,λh=>(G9 h).below f,λh=>(q h).below f⟩,O (b.o.below f)⟩
    . have l:=b.o;have j:=Dy c (d 8 Y);obtain rfl:=c.o.1 (d 0 Y);clear d;have n:=O (Ra _ _ ps (1/cf ps m) V l.1 j Qd.o Qe.o Qh.o);rw[Qk.o]at n;clear j;refine Jb rfl rfl λK hK=>?_;go_simp;go_wp2_with(go_at_call 76;refine n.o.mono ?_;rintro e w5 ⟨v5,rfl,M,f⟩)
      obtain⟨_,G1,r,v,x,y,z,A,G8,_,q⟩:=c.o;exact E8 ⟨_,_,_,rfl,O ⟨λ_=>rfl,λh=>(G1 h).below f,r,v,x,y,z,λh=>(A h).below f,λh=>(G8 h).below f,λ_=>M,λh=>(q h).below f⟩,O (b.o.below f)⟩
    . have l:=b.o;have j:=D7 c (d 9 Y);clear d;refine DV ?_;exact⟨(Hm c λ_=>j),O (b.o)⟩
   case fin1=>
    rintro D ad V an ⟨X,tk,tl,ta,tb,R,S,T,U,W,N,rfl,c,b⟩;have h9:=c.o.2.2.2.2.2.2.2.2.2.2 (an 10 DQ);have HH:=O (show RowK false V N (JC ps)/\Bl w V from⟨h9,b.o.2⟩);clear c b an h9;go_wp2_with fail
    go_ret;exact⟨_,rfl,HH.o⟩
theorem Rhn.dvn{b:List Rat}(h:Rhn p q (Db K p q) a b)(i:b≠[]):∃D E:Int,Dvn D E E (Db K p q) (Db K p q) a b:=by
 obtain⟨D,d1,e,f⟩:=h.ca;obtain⟨E,c,d,g⟩:=h.cb;exact⟨D,E,d1,e,f,c,d,g,c,d,by rw[h.mb i,Rat.divInt_self' c]⟩
theorem ChOk.fit(b:ChOk K p q)(f:a.length<=max p.length q.length):Db K p q+a.length*(Db K p q+1)+1+(2*Db K p q+1)<=1000000000:=by
 have c:(a.length+2)*(Db K p q+1)<=(max p.length q.length+2)*(Db K p q+1):=Ak _ J;have d:(a.length+2)*(Db K p q+1)=a.length*(Db K p q+1)+2*(Db K p q+1):=Ay _ _ _;have e:=b.le;omega
theorem fE(K:Nat)(va vb:G)(p q:List Rat)(w:F)(ha:RowK false w va p)(Q:RowK false w vb q)(c:ChOk K p q):
 Calls H 13 #[va,vb] w λe f=>∃u,e=.returned u/\RowK false f u (JL p q)/\Bl w f:=by
 obtain⟨A,hA⟩:=ex (Db K p q);have s:=c.bd;have Qo:=c.ln;have mono:∀(r:List Rat),Jd r=r->(∃D:Int,D≠0/\Sm 1000000000 D/\ED D 1000000000 r)->r.length<=1000->∀(V:F) (x:G),RowK false V x r->Calls H 40 #[x] V λe f=>∃u,e=.returned u/\RowK false f u (JC r)/\Bl V f:=λr tr hr hl V x k=>by
  obtain⟨D,d1,M,N⟩:=hr;exact Sw x r V k tr (Sqs.of λi=>Sq.of ((N i).smq d1 M) (Aa _)) (λj=>by
   rw[Fm,Rat.one_mul];exact Sq.of (((N _).smq d1 M).inv (JA tr j)) (Aa _)) J
 have Qa:∀(r:List Rat),(∃D:Int,D≠0/\Sm K D/\ED D K r)->∃D:Int,D≠0/\Sm 1000000000 D/\ED D 1000000000 r:=λr h=>by
  obtain⟨D,d1,M,N⟩:=h;exact⟨D,d1,M.mono s.2.1,λi=>(N i).mono s.2.1⟩
 obtain⟨H1,H2,z,Qg⟩:=D0 (λ(V:F) (hB:Bl w V)=>mono p c.tp (Qa p c.cp) J V va (ha.below hB)) (λ(V:F) (hB:Bl w V)=>mono q c.tq (Qa q c.cq) J V vb (Q.below hB)) (Rhn.start c.tp c.tq c.lp c.lq s.2.2.1) λ(a b:List Rat) (h:Rhn p q (Db K p q) a b) (Q:b≠[])=>Rhn.next c.tp c.tq c.lp c.lq s.2.2.1 h Q;have Qk:=O (λ(a b:List Rat) (h:Rhn p q (Db K p q) a b) (j:b≠[]) (V:F) (x y:G) (k:RowK false V x a) (hy:RowK false V y b)=>show Calls H 41 #[x,y] V λe f=>∃u v,e=.returned (.tuple #[u,v])/\RowK false f u (JS a b)/\RowK false f v (JU a b)/\Bl V f by
  obtain⟨D,E,l⟩:=Rhn.dvn h j;have hf:=c.fit h.la;exact Se _ (Db K p q) x y a b V k hy (l.divS a.length J) l.start l.sq h.ta h.tb j (by have:=h.la;omega))
 have Qh:=O (λ(a b:List Rat) (h:Rhn p q (Db K p q) a b) (j:b≠[]) (V:F) (x:G) (k:RowK false V x (JU a b))=>mono (JU a b) (YU _ _) (by
  obtain⟨D,E,l⟩:=Rhn.dvn h j;have hf:=c.fit h.la;obtain⟨m,hm⟩:=ex (a.length-(b.length-1));have ak:m*(Db K p q+1)<=a.length*(Db K p q+1):=Ak _ J;have P:=l.den m;have h2:=(l.rem hm).1;exact⟨_,P.1,P.2.mono J,λi=>(h2 i).mono J⟩) (by have P:=(YK a b h.tb j).2.1;have h2:=h.lb;omega) V x k)
 have Ql:=O (λ(a:List Rat) (h:Rhn p q (Db K p q) a [])=>show a=JL p q by rw[<-h.gc,OZ,h.ma]);have Qi:=O (λ(a b:List Rat) (h:Rhn p q (Db K p q) a b)=>show b.length<=1000 by have:=h.lb;omega);rw[hA]at z Qg Qk Qh Ql Qi;clear mono Qa c s Qo ha Q hA;go_enter Tryz.func13,Tryz.ntmps13
 have Qf:Bl w w:=BB _ _;go_wp2_with(first
  |(go_at_call 40;refine(H1.o _ Qf).mono ?_;clear H1;rintro e w1 ⟨u1,rfl,o,ah⟩;have Qd:=Bt Qf ah;clear Qf)
  |(go_at_call 40;refine(H2.o _ Qd).mono ?_;clear H2;rintro e w2 ⟨u2,rfl,t,ad⟩;have Qm:=Bt Qd ad;have o:=o.below ad))
 obtain⟨S,U,T,rfl⟩:=o.form;obtain⟨W,g,X,rfl⟩:=t.form;go_loopw [5,6,7,8] (λav bv _ _ wr=>∃(a b:List Rat) (S:Option Addr) (U T:Nat) (W:Option Addr) (g X:Nat),av=C S U T/\bv=C W g X/\g<=1000/\Hid (g=b.length)/\Hid (RowK false wr (C S U T) a)/\Hid (RowK false wr (C W g X) b)/\Hid (Rhn p q A a b)/\Hid (Bl w wr)) λ_ bv _ _ _=>lenOf bv
 case atStart=>exact⟨_,_,_,_,_,_,_,_,rfl,rfl,by have:=Qi.o _ _ z.o;have:=t.formsF.1;omega,O t.formsF.1,O o,O t,z,O Qm⟩
 case round=>
  clear o t ah ad Qd Qm z;obtain⟨a,b,S,U,T,W,g,X,rfl,rfl,am,B,HA,HB,n,HQ⟩:=hrel;by_cases d:b=[]
  . have Qn:¬(0:Int)<(g:Int):=by have:=B.o;rw[d]at this;simp at this;omega
    have Qq:=O (show a=JL p q from Ql.o a (by have:=n.o;rwa[d]at this));clear d;go_wp2_with fail
    go_ret;exact⟨_,rfl,by rw[<-Qq.o];exact HA.o,HQ.o⟩
  . have Qn:(0:Int)<(g:Int):=by have:=B.o;have:=Al.2 d;omega
    obtain⟨H3,H4,HN,Qj⟩:=D0 (Qk.o a b n.o d wr _ _ HA.o HB.o) (λ(V:F) (x:G) (k:RowK false V x (JU a b))=>Qh.o a b n.o d V x k) (Qg.o a b n.o d) (show(JC (JU a b)).length<b.length by rw[Ys (YU _ _)];exact(YK a b n.o.tb d).2.1);clear d;go_wp2_with(first
     |(go_at_call 41;refine H3.o.mono ?_;clear H3;rintro e w3 ⟨u3,v3,rfl,aj,ai,R⟩)
     |(go_at_call 40;refine(H4.o _ _ ai).mono ?_;clear H4;rintro e w4 ⟨u4,rfl,af,ae⟩;obtain⟨za,zl,zc,rfl⟩:=af.form))
    obtain⟨L,Qr,Qp⟩:=Dg af ((HB.o.below R).below ae) ((Bt HQ.o R).trans (ae.mono (Ar HQ.o.size R.size)));clear aj ai R af ae;go_roundw
    case rel=>exact⟨b,JC (JU a b),_,_,_,_,_,_,rfl,rfl,by have:=L.o.formsF.1;have:=Qj.o;have:=B.o;omega,O L.o.formsF.1,Qr,L,HN,Qp⟩
    case measure=>
     show zl<g;have P:=L.o.formsF.1;have h2:=Qj.o;have h3:=B.o;omega
end M3
section
def Dv(a b:List Rat):Prop:=∃c:List Rat,∀x,ev b x=ev a x*ev c x
def Eo(a b:List Rat):Prop:=∃u v:List Rat,∀x,ev u x*ev a x+ev v x*ev b x=1
section
variable {a b c d p q:List Rat}
theorem Dv.refl(a:List Rat):Dv a a:=⟨[1],λx=>by simp[ev];grind⟩
theorem Dv.trans(h:Dv a b)(d:Dv b c):Dv a c:=by
 obtain⟨u,e⟩:=h;obtain⟨v,f⟩:=d;exact⟨Jv u v,λx=>by rw[f,e,Jo];grind⟩
theorem Dv.zero(a:List Rat):Dv a []:=⟨[],λx=>by simp[ev]⟩
theorem Dv.mul(h:Dv a b)(c:List Rat):Dv a (Jv b c):=by
 obtain⟨u,d⟩:=h;exact⟨Jv u c,λx=>by rw[Jo,d,Jo];grind⟩
theorem Dv.comb(h:Dv d a)(e:Dv d b)(u v:List Rat)(f:∀x,ev c x=ev u x*ev a x+ev v x*ev b x):Dv d c:=by
 obtain⟨s,hs⟩:=h;obtain⟨t,g⟩:=e;exact⟨Xz (Jv u s) (Jv v t),λx=>by rw[f,hs,g,Xt,Jo,Jo];grind⟩
theorem Dv.of_sc{k:Rat}(c:k≠0)(h:Dv a b):Dv (Dd k a) b:=by
 obtain⟨u,d⟩:=h;have e:(1/k)*k=1:=Cq c;exact⟨Dd (1/k) u,λx=>by rw[d,YX,YX];grind⟩
theorem Dv.sc(h:Dv a b)(k:Rat):Dv a (Dd k b):=by
 obtain⟨u,c⟩:=h;exact⟨Dd k u,λx=>by rw[YX,c,YX];grind⟩
theorem Eo.symm(h:Eo a b):Eo b a:=by
 obtain⟨u,v,h⟩:=h;exact⟨v,u,λx=>by rw[<-h x];grind⟩
theorem Eo.of_dv(h:Eo a b)(c:Dv d a):Eo d b:=by
 obtain⟨u,v,h⟩:=h;obtain⟨s,hs⟩:=c;exact⟨Jv u s,v,λx=>by rw[<-h x,hs x,Jo];grind⟩
theorem Eo.dv(h:Eo a b)(e:Dv a (Jv b c)):Dv a c:=by
 obtain⟨u,v,h⟩:=h;obtain⟨k,f⟩:=e;refine⟨Xz (Jv u c) (Jv v k),λx=>?_⟩;have g:=h x;have d:=f x;rw[Jo]at d;rw[Xt,Jo,Jo];grind
theorem Eo.mul(h:Eo a b)(d:Eo a c):Eo a (Jv b c):=by
 obtain⟨u,v,h⟩:=h;obtain⟨s,t,d⟩:=d;refine⟨Xz u (Jv (Jv v b) s),Jv v t,λx=>?_⟩;have e:=h x;have f:=d x;rw[Xt,Jo,Jo,Jo,Jo];grind
end
theorem Sx{p:List Rat}(x:Rat):ev (JC p) x=ev p x*(1/cf p (p.length-1)):=YX _ _ _
theorem fF:∀(n:Nat) (p q:List Rat),Jd p=p->Jd q=q->q.length<=n->Dv (EP n p q) p/\Dv (EP n p q) q/\∃u v:List Rat,∀x,ev (EP n p q) x=ev u x*ev p x+ev v x*ev q x:=by
 intro n;induction n with
 |zero=>
  intro p q hp hq hl;have a:q=[]:=MV J;subst a;rw[EP];refine⟨?_,Dv.zero _,[1/cf p (p.length-1)],[],λx=>by rw[Sx];simp[ev];grind⟩;by_cases b:p=[]
  . subst b;exact Dv.refl _
  . exact Dv.of_sc (IB (JA hp b)) (Dv.refl _)
 |succ n g=>
  intro p q hp hq hl;by_cases a:q=[]
  . subst a;simp only[EP,BG];refine⟨?_,Dv.zero _,[1/cf p (p.length-1)],[],λx=>by rw[Sx];simp[ev];grind⟩;by_cases b:p=[]
    . subst b;exact Dv.refl _
    . exact Dv.of_sc (IB (JA hp b)) (Dv.refl _)
  . simp only[EP,BE a];obtain⟨d,j,k,i⟩:=YK p q hq a;obtain⟨c,e,u,v,f⟩:=g q (JU p q) hq i J;refine⟨c.comb e (JS p q) [1] (λx=>by rw[d x];simp[ev];grind),c,v,JP u (Jv v (JS p q)),λx=>?_⟩;rw[f x,d x,Gy,Jo];grind
section
variable {p q d:List Rat}
theorem IV(hp:Jd p=p)(hq:Jd q=q):Dv (JL p q) p/\Dv (JL p q) q/\∃u v:List Rat,∀x,ev (JL p q) x=ev u x*ev p x+ev v x*ev q x:=fF _ p q hp hq (Aa _)
theorem Sy(hp:Jd p=p)(hq:Jd q=q)(a:Dv d p)(b:Dv d q):Dv d (JL p q):=by
 obtain⟨_,_,u,v,h⟩:=IV hp hq;exact a.comb b u v h
theorem fG:∀(n:Nat) (p q:List Rat),Jd p=p->Jd q=q->q.length<=n->JC (EP n p q)=EP n p q:=by
 intro n;induction n with
 |zero=>intro p q hp _ _;exact Ma hp
 |succ n b=>
  intro p q hp hq hl;rw[EP];split
  . exact Ma hp
  . rename_i a;have:=(YK p q hq a).2.1;exact b _ _ hq (YU _ _) J
theorem XN(hp:Jd p=p)(hq:Jd q=q):JC (JL p q)=JL p q:=fG _ p q hp hq (Aa _)
end
variable{a b g p q:List Rat}
theorem Ka(hp:Jd p=p)(h:∀x,ev p x=0):p=[]:=E0 hp rfl (λx=>by rw[h x];rfl)
theorem Dv.some(d:Jd b=b)(h:Dv a b):∃c,Jd c=c/\b=Jv a c:=by
 obtain⟨c,e⟩:=h;exact⟨Jd c,Yj _,E0 d (Yt _ _) λx=>by rw[Jo,XE,e]⟩
theorem IW(a:List Rat):Jv a []=[]:=Ka (Yt _ _) λx=>by rw[Jo];simp[ev]
theorem Dv.anti(o:Jd a=a)(j:Jd b=b)(h:Dv a b)(r:Dv b a):∃k:Rat,k≠0/\b=Dd k a:=by
 obtain⟨c,p,e⟩:=h.some j;obtain⟨d,s,i⟩:=r.some o;by_cases g:a=[]
 . refine⟨1,DQ,?_⟩;rw[e,g];rfl
 . have n:b≠[]:=λf=>g (by rw[i,f];rfl);have m:c≠[]:=λf=>n (by rw[e,f];exact IW _);have l:d≠[]:=λf=>g (by rw[i,f];exact IW _);have l1:=Yg o p g m;have l2:=Yg j s n l;rw[<-e]at l1;rw[<-i]at l2;have u:0<c.length:=Al.2 m;have v:0<d.length:=Al.2 l;have w:0<a.length:=Al.2 g;have q:c.length=1:=J
   match c,q with
   |[k],_=>
    have t:k≠0:=by
     have:=JA p Y;simpa[Y1]using this
    refine⟨k,t,E0 j (JZ _ _) λx=>?_⟩;rw[e,Jo,YX];simp[ev];grind
theorem Dv.eq(c:Jd a=a)(f:Jd b=b)(ma:JC a=a)(mb:JC b=b)(h:Dv a b)(d:Dv b a):a=b:=by
 obtain⟨k,g,e⟩:=h.anti c f d;rw[<-mb,e,MY g c,ma]
theorem Xx(e:Jd g=g)(a:g≠[])(h:Dv g p):JU p g=[]/\∀x,ev p x=ev g x*ev (JS p g) x:=by
 obtain⟨c,d⟩:=h;have b:=MW (p:=p) (u:=Jd c) (v:=[]) e a (Yj _) rfl (Al.2 a) (λx=>by rw[d,XE];simp[ev];grind);refine⟨b.2.symm,λx=>?_⟩;rw[<-b.1,XE,d]
theorem XW{u v:List Rat}(i:Jd g=g)(b:g≠[])(h:∀x,ev g x*ev u x=ev g x*ev v x):∀x,ev u x=ev v x:=by
 have d:Jv g (JP u v)=[]:=Ka (Yt _ _) λx=>by rw[Jo,Gy];have:=h x;grind
 have e:JP u v=[]:=by
  by_cases a:JP u v=[]
  . exact a
  . exfalso
    have l:=Yg i (XQ u v) b a;rw[d]at l;have j:0<g.length:=Al.2 b;have k:0<(JP u v).length:=Al.2 a;simp at l;omega
 intro x;have c:=Bv (λr=>ev r x) e;simp only[Gy]at c;have f:ev [] x=0:=rfl;rw[f]at c;grind
theorem Sz(hp:Jd p=p)(hq:Jd q=q)(a:JL p q≠[]):Eo (JS p (JL p q)) (JS q (JL p q)):=by
 obtain⟨f,g,u,v,i⟩:=IV hp hq;have c:=YG p q;have d:=(Xx c a f).2;have e:=(Xx c a g).2;refine⟨u,v,?_⟩;have j:=XW (u:=Xz (Jv u (JS p (JL p q))) (Jv v (JS q (JL p q)))) (v:=[1]) c a (λx=>by
  rw[Xt,Jo,Jo];have b:=i x;have k:=d x;have l:=e x;simp[ev];grind)
 intro x;have b:=j x;rw[Xt,Jo,Jo]at b;rw[b];simp[ev];grind
theorem Of(hp:Jd p=p)(hq:Jd q=q)(h:p≠[]\/q≠[]):JL p q≠[]:=λe=>by
 obtain⟨a,b,_⟩:=IV hp hq;rw[e]at a b;obtain⟨c,f⟩:=a;obtain⟨d,g⟩:=b;rcases h with h|h
 . exact h (Ka hp λx=>by rw[f];simp[ev])
 . exact h (Ka hq λx=>by rw[g];simp[ev])
end
section
variable {a b c d e f g k p q r u w y z R:List Rat}
theorem LG(p q:List Rat)(x:Rat):ev (Jh (Jv p q)) x=ev (Jh p) x*ev q x+ev p x*ev (Jh q) x:=by
 rw[Tm,Xt,Jo,Jo]
theorem Og(p:List Rat)(i:Nat):cf (Jh p) i=cf p (i+1)*(((i+1:Nat):Int):Rat):=by
 unfold Jh;rw[JR,Ic];rfl
theorem fH(a:p≠[]):(Jh p).length<p.length:=by
 have b:0<p.length:=Al.2 a;have c:(Jh p).length<=p.length-1:=Xc (YS _) λi d=>by
  rw[Og,J1 J,CE]
 omega
theorem fI(hp:Jd p=p)(h:Jh p=[]):p.length<=1:=by
 refine Xc hp λi d=>?_;obtain⟨j,rfl⟩:∃j,i=j+1:=⟨i-1,J⟩;have b:=Og p j;rw[h,Yw]at b;rcases FE.1 b.symm with a|a
 . exact a
 . exfalso
   have c:((j+1:Nat):Int)=0:=by exact_mod_cast a
   omega
theorem Oh(hp:Jd p=p)(a:p≠[])(hl:p.length<=1):Dv p [1]:=by
 have b:0<p.length:=Al.2 a;match p,hl,hp,a with
 |[c],_,hp,_=>
  have d:c≠0:=by
   have:=JA hp Y;simpa[Y1]using this
  exact⟨[1/c],λx=>by simp[ev];grind⟩
theorem S0(b:Jd u=u)(a:u≠[])(h:Dv u (Jh u)):Dv u [1]:=by
 refine Oh b a (fI b ?_);obtain⟨c,i,e⟩:=h.some (YS u);by_cases f:Jh u=[]
 . exact f
 . exfalso
   have d:c≠[]:=λg=>f (by rw[e,g];exact IW _);have l1:=Yg b i a d;have l2:=fH a;have j:0<c.length:=Al.2 d;rw[<-e]at l1;omega
theorem fJ(D:Jd d=d)(r:d≠[])(h:Dv d (Jv (Jh d) f)):∀(n:Nat) (u:List Rat),Jd u=u->d.length-u.length<=n->Dv u d->Eo u f->Dv u [1]:=by
 intro n;induction n with
 |zero=>
  intro u b hl p l;obtain⟨m,o,e⟩:=p.some D;have a:u≠[]:=λg=>r (by rw[e,g];rfl);have w:m≠[]:=λg=>r (by rw[e,g];exact IW _);have l1:=Yg b o a w;rw[<-e]at l1;have p3:0<u.length:=Al.2 a;have R:m.length<=1:=J
  have S:=Oh o w R;have Q:Dv d u:=by
   obtain⟨c,j⟩:=S;refine⟨c,λx=>?_⟩;have y:=j x;rw[e,Jo,Rat.mul_assoc,<-y];simp[ev];grind
  have i:Dv u (Jv f (Jh d)):=by
   obtain⟨c,j⟩:=p.trans h;exact⟨c,λx=>by rw[<-j,Jo,Jo];grind⟩
  have z:=l.dv i;refine S0 b a ?_;obtain⟨k,hk,T⟩:=Q.anti D b p;have A:Jh u=Dd k (Jh d):=by
   refine E0 (YS _) (JZ _ _) λx=>?_;rw[T,YX];have B:Dd k d=Jv d [k]:=E0 (JZ _ _) (Yt _ _) λx=>by rw[YX,Jo];simp[ev];grind
   rw[B,LG];have M:ev (Jh [k]) x=0:=by rw[LO];simp[dv,ev];grind
   rw[M];simp[ev];grind
  rw[A];exact z.sc k
 |succ n ih=>
  intro u b hl p l;obtain⟨m,o,e⟩:=p.some D;have a:u≠[]:=λg=>r (by rw[e,g];rfl);have w:m≠[]:=λg=>r (by rw[e,g];exact IW _);obtain⟨U,V,s,t,W⟩:=IV b o;have L:=Of b o (Or.inl a);have K:=YG u m;by_cases X:(JL u m).length<=1
  . obtain⟨c,j⟩:=Oh K L X;have P:Eo u m:=⟨Jv s c,Jv t c,λx=>by
     have y:=j x;have i:=W x;rw[Jo,Jo];have z:ev [1] x=1:=by simp[ev];grind
     rw[z]at y;grind⟩
    have i:Dv u (Jv f (Jv m (Jh u))):=by
     obtain⟨v,q⟩:=h;refine⟨JP (Jv m v) (Jv f (Jh m)),λx=>?_⟩;have A:=q x;have B:=LG u m x;rw[<-e]at B;have M:ev d x=ev u x*ev m x:=by rw[e,Jo]
     rw[Jo]at A;rw[Jo,Jo,Gy,Jo,Jo];grind
    exact S0 b a (P.dv (l.dv i))
  . have N:Dv (Jv u (JL u m)) d:=by
     obtain⟨v,q⟩:=V;exact⟨v,λx=>by rw[e,Jo,q,Jo];grind⟩
    have l1:=Yg b K a L;have p3:0<u.length:=Al.2 a;have i:=ih (Jv u (JL u m)) (Yt _ _) J N (l.symm.mul (l.of_dv U).symm).symm;obtain⟨v,q⟩:=i;exact⟨Jv (JL u m) v,λx=>by rw[q,Jo,Jo];grind⟩
structure Yun(R w y:List Rat):Prop where
 tR:Jd R=R
 R0:R≠[]
 tw:Jd w=w
 w0:w≠[]
 mw:JC w=w
 ty:Jd y=y
 eq:∀x,ev y x*ev R x=ev w x*ev (Jh R) x
 cop:Eo w y
theorem Yun.dv(h:Yun R w y):Dv w R:=by
 refine h.cop.dv ⟨Jh R,λx=>?_⟩;rw[Jo,h.eq]
theorem fK(f:Jd w=w)(w0:w≠[])(mw:JC w=w)(d:Jd g=g)(p:JC g=g)(h:Dv g w):JC (JS w g)=JS w g/\g≠[]/\JS w g≠[]/\w=Jv g (JS w g):=by
 have a:g≠[]:=λe=>w0 (by
  obtain⟨c,m⟩:=h;exact Ka f λx=>by rw[m,e];simp[ev])
 have e:=(Xx d a h).2;have b:w=Jv g (JS w g):=E0 f (Yt _ _) λx=>by rw[Jo,<-e]
 have q0:JS w g≠[]:=λj=>w0 (by rw[b,j];exact IW _);refine⟨?_,a,q0,b⟩;have l:=Yg d (IA w g) a q0;have r:0<g.length:=Al.2 a;have q:0<(JS w g).length:=Al.2 q0;have i:cf w (w.length-1)=cf g (g.length-1)*cf (JS w g) ((JS w g).length-1):=by
  obtain⟨Q,k⟩:=ex (JS w g);rw[k]at b l q ⊢;rw[b,l,show g.length+Q.length-1-1=(g.length-1)+(Q.length-1)by omega];unfold Jv;rw[JR];exact Ow g Q (g.length-1) (Q.length-1) J J
 have o:cf w (w.length-1)=1:=by have:=MZ f w0;rwa[mw]at this
 have n:cf g (g.length-1)=1:=by have:=MZ d a;rwa[p]at this
 rw[o,n,Rat.one_mul]at i;unfold JC;rw[<-i,show(1:Rat)/1=1 by grind];exact KW (IA _ _)
theorem Yun.step(h:Yun R w y):JL w (JS R w)=JS w (JL w (JP y (Jh w)))/\JS w (JL w (JS R w))=JL w (JP y (Jh w))/\
 Yun (JS R w) (JS w (JL w (JP y (Jh w)))) (JS (JP y (Jh w)) (JL w (JP y (Jh w))))/\R=Jv w (JS R w)/\
 (∀x,ev (JP y (Jh w)) x*ev (JS R w) x=ev w x*ev (Jh (JS R w)) x)/\w=Jv (JL w (JP y (Jh w))) (JS w (JL w (JP y (Jh w)))):=by
 obtain⟨r,hr⟩:=ex (JS R w);obtain⟨z,Q⟩:=ex (JP y (Jh w));have j:Jd r=r:=by rw[<-hr];exact IA _ _
 have V:Jd z=z:=by rw[<-Q];exact XQ _ _
 have eR:∀x,ev R x=ev w x*ev r x:=by rw[<-hr];exact(Xx h.tw h.w0 h.dv).2
 have W:R=Jv w r:=E0 h.tR (Yt _ _) λx=>by rw[Jo,eR]
 have r0:r≠[]:=λe=>h.R0 (by rw[W,e];exact IW _);have Qf:∀x,ev z x*ev r x=ev w x*ev (Jh r) x:=by
  have b:=XW (g:=w) (u:=Jv z r) (v:=Jv w (Jh r)) h.tw h.w0 (λx=>by
   have a:=h.eq x;have i:=LG w r x;rw[<-W]at i;rw[Jo,Jo,<-Q,Gy];have M:=eR x;grind)
  intro x;have a:=b x;rwa[Jo,Jo]at a
 have Qe:=YS r;obtain⟨d,D⟩:=ex (JL r (Jh r));have L:Jd d=d:=by rw[<-D];exact YG _ _
 have d0:d≠[]:=by rw[<-D];exact Of j Qe (Or.inl r0)
 obtain⟨g1,g2,_⟩:=IV j Qe;rw[D]at g1 g2;obtain⟨f,hf⟩:=ex (JS r d);obtain⟨e,he⟩:=ex (JS (Jh r) d);have A:∀x,ev r x=ev d x*ev f x:=by rw[<-hf];exact(Xx L d0 g1).2
 have ee:∀x,ev (Jh r) x=ev d x*ev e x:=by rw[<-he];exact(Xx L d0 g2).2
 have tf:Jd f=f:=by rw[<-hf];exact IA _ _
 have f0:f≠[]:=λe2=>r0 (Ka j λx=>by rw[A,e2];simp[ev]);have Qi:Eo f e:=by
  have:=Sz j Qe (by rw[D];exact d0);rwa[D,hf,he]at this
 have Qh:∀x,ev z x*ev f x=ev w x*ev e x:=by
  have b:=XW (g:=d) (u:=Jv z f) (v:=Jv w e) L d0 (λx=>by
   have a:=Qf x;rw[A,ee]at a;rw[Jo,Jo];grind)
  intro x;have a:=b x;rwa[Jo,Jo]at a
 have Qg:Dv f w:=Qi.dv (⟨z,λx=>by rw[Jo];have:=Qh x;grind⟩);obtain⟨k,tk,ek⟩:=Qg.some h.tw;have l:∀x,ev w x=ev f x*ev k x:=λx=>by rw[ek,Jo]
 have X:∀x,ev z x=ev k x*ev e x:=by
  have b:=XW (g:=f) (u:=z) (v:=Jv k e) tf f0 (λx=>by
   have a:=Qh x;rw[l]at a;rw[Jo];grind)
  intro x;have a:=b x;rwa[Jo]at a
 obtain⟨P,m⟩:=ex (JL w z);have o:Jd P=P:=by rw[<-m];exact YG _ _
 have mP:JC P=P:=by rw[<-m];exact XN h.tw V
 obtain⟨T,p2,_⟩:=IV h.tw V;have Qo:Dv k P:=by rw[<-m];exact Sy h.tw V ⟨f,λx=>by rw[l];grind⟩ ⟨e,X⟩
 rw[m]at T p2;have Qm:Dv P k:=by
  obtain⟨u,v,K⟩:=Qi;refine T.comb p2 u v λx=>?_;have b:=K x;rw[l,X];grind
 obtain⟨m1,q,S,eW⟩:=fK h.tw h.w0 h.mw o mP T;have zP:=(Xx o q p2).2;have p:=(Xx o q T).2;have Ql:Eo k y:=h.cop.of_dv ⟨f,λx=>by rw[l];grind⟩;have Qq:Eo k f:=by
  obtain⟨u,v,K⟩:=Ql;refine⟨Xz u (Jv v (Xz e (Jh f))),Jv v (Jh k),λx=>?_⟩;have b:=K x;have a:ev y x=ev z x+ev (Jh w) x:=by rw[<-Q,Gy];grind
  have i:=LG f k x;rw[<-ek]at i;have M:=X x;rw[Xt,Jo,Jo,Xt];grind
 have Qj:Dv d (Jv (Jh d) f):=by
  refine⟨JP e (Jh f),λx=>?_⟩;have b:r=Jv d f:=E0 j (Yt _ _) λx=>by rw[Jo,A]
  have a:=LG d f x;rw[<-b,ee]at a;rw[Jo,Gy];grind
 have Qp:Eo k d:=by
  obtain⟨q1,q2,s,t,q3⟩:=IV tk L;obtain⟨c,B⟩:=fJ L d0 Qj (d.length) (JL k d) (YG _ _) J q2 (Qq.of_dv q1);refine⟨Jv s c,Jv t c,λx=>?_⟩;have b:=B x;have a:=q3 x;have i:ev [1] x=1:=by simp[ev];grind
  rw[i]at b;rw[Jo,Jo];grind
 obtain⟨c1,c2,s,t,c3⟩:=IV h.tw j;have Qk:Dv f (JL w r):=Sy h.tw j Qg ⟨d,λx=>by rw[A];grind⟩;have Qs:Dv (JL w r) f:=by
  obtain⟨u,v,K⟩:=Qp;refine c1.comb c2 u v λx=>?_;have b:=K x;rw[l,A];grind
 obtain⟨n,N⟩:=ex (JS w P);rw[N]at m1 S eW p;have U:Jd n=n:=by rw[<-N];exact IA _ _
 have Qt:Dv f n:=by
  obtain⟨c,B⟩:=Qm;refine⟨c,λx=>?_⟩;have b:=XW (g:=P) (u:=n) (v:=Jv f c) o q (λx=>by
   have a:=p x;have i:=l x;have M:=B x;rw[Jo];grind)
  have a:=b x;rwa[Jo]at a
 have Qn:Dv n f:=by
  have k0:k≠[]:=λe2=>h.w0 (by rw[ek,e2];exact IW _);obtain⟨c,B⟩:=Qo;refine⟨c,λx=>?_⟩;have b:=XW (g:=k) (u:=f) (v:=Jv n c) tk k0 (λx=>by
   have a:=p x;have i:=l x;have M:=B x;rw[Jo];grind)
  have a:=b x;rwa[Jo]at a
 have hG:JL w r=n:=Dv.eq (YG _ _) U (XN h.tw j) m1 (Qs.trans Qt) (Qn.trans Qk);have Qr:Dv n w:=⟨P,λx=>by rw[p];grind⟩;have Qb:JS w n=P:=by
  refine E0 (IA _ _) o λx=>?_;have b:=(Xx U S Qr).2;refine XW (g:=n) (u:=JS w n) (v:=P) U S (λx=>?_) x;have a:=b x;have i:=p x;grind
 rw[hr,Q,m,N];refine⟨hG,by rw[hG];exact Qb,⟨j,r0,U,S,m1,IA _ _,λx=>?_,?_⟩,W,Qf,eW⟩
 . refine(XW (g:=P) (u:=Jv (JS z P) r) (v:=Jv n (Jh r)) o q (λx=>?_) x |> λb=>by rwa[Jo,Jo]at b);have a:=Qf x;have i:=zP x;have M:=p x;rw[Jo,Jo];grind
 . have:=Sz h.tw V (by rw[m];exact q);rwa[m,N]at this
end
section
open Go.RowKit Go.Shelf
def Cd(M:Nat)(p:List Rat):Prop:=∃D:Int,D≠0/\Sm M D/\ED D M p
section
variable {M N:Nat} {p q:List Rat}
theorem Cd.mono(h:Cd M p)(a:M<=N):Cd N p:=by
 obtain⟨D,d1,b,c⟩:=h;exact⟨D,d1,b.mono a,λi=>(c i).mono a⟩
theorem Cd.smq(h:Cd M p)(i:Nat):Da M (cf p i):=by
 obtain⟨D,d1,a,b⟩:=h;exact(b i).smq d1 a
theorem Cd.ln(h:Cd M p):Ln M p:=by
 obtain⟨D,d1,b,a⟩:=h;exact a.ln d1
theorem Cd.sqs(h:Cd M p)(a:M<=1000000000):Sqs p:=Sqs.of λi=>Sq.of (h.smq i) a
theorem Cd.pos(h:Cd M p):1<=M:=by
 obtain⟨D,d1,a,_⟩:=h;by_cases b:1<=M
 . exact b
 . exfalso
   obtain rfl:M=0:=J
   unfold Sm at a
   have:D.natAbs≠0:=Int.natAbs_ne_zero.2 d1
   simp at a;omega
theorem Cd.mon(h:Cd M p)(tp:Jd p=p):Cd M (JC p):=LD tp h.ln h.pos
theorem Cd.monS(h:Cd M p)(tp:Jd p=p)(b:M<=1000000000)(i:Nat):Sq (cf p i/cf p (p.length-1)):=by
 have a:=Ln.sqs tp h.ln h.pos i;unfold JC at a;rw[Xa,Fm,Rat.one_mul,<-Fm]at a;exact Sq.of a b
theorem Cd.dvn(h:Cd M p)(f:Cd M q)(g:cf q (q.length-1)=1):∃D E:Int,Dvn D E E M M p q:=by
 obtain⟨D,d1,c,d⟩:=h;obtain⟨E,a,b,e⟩:=f;exact⟨D,E,d1,c,d,a,b,e,a,b,by rw[g,Rat.divInt_self' a]⟩
theorem Cd.quo(h:Cd M p)(e:Cd M q)(b:cf q (q.length-1)=1):Cd ((p.length+1)*(M+1)) (JS p q)/\Cd ((p.length+1)*(M+1)) (JU p q):=by
 obtain⟨D,E,d⟩:=h.dvn e b;obtain⟨m,b⟩:=ex (p.length-(q.length-1));have a:=d.den m;have c:=d.rem b;have f:m*(M+1)<=p.length*(M+1):=Ak _ J;have g:(p.length+1)*(M+1)=p.length*(M+1)+(M+1):=by rw[Ay,Cw]
 exact⟨⟨_,a.1,a.2.mono J,λi=>(c.2 i).mono J⟩,⟨_,a.1,a.2.mono J,λi=>(c.1 i).mono J⟩⟩
end
variable{q:List Rat}
theorem Oi(tq:Jd q=q)(q0:q≠[])(a:JC q=q):cf q (q.length-1)=1:=by
 have:=MZ tq q0;rwa[a]at this
def Dk(p q:List Rat):List Rat:=if q=[]then []else JS p q
theorem Oj(p q:List Rat):Jd (Dk p q)=Dk p q:=by
 unfold Dk;split
 . rfl
 . exact IA _ _
theorem Cd.ov{M:Nat}{p:List Rat}(h:Cd M p)(b:Cd M q)(tq:Jd q=q)(c:JC q=q):Cd ((p.length+1)*(M+1)) (Dk p q):=by
 unfold Dk;split
 . refine(show Cd 1 []from Sj J).mono ?_
   have:1*1<=(p.length+1)*(M+1):=CC J J
   omega
 . rename_i a;exact(h.quo b (Oi tq a c)).1
def XO(p:List Rat):List Rat:=JC (Dk p (JL p (Jh p)))
namespace M3
variable{p q:List Rat}{K:Nat}
theorem Chn.ends(d:ChOk K p q):∀(n:Nat) (a b:List Rat),b.length<=n->Chn p q (Db K p q) a b->∃r,Chn p q (Db K p q) r []:=by
 intro n;induction n with
 |zero=>
  intro a b hl h;have c:b=[]:=MV J;subst c;exact⟨a,h⟩
 |succ n e=>
  intro a b hl h;by_cases c:b=[]
  . subst c;exact⟨a,h⟩
  . have f:=Mi (a:=a) h.tb c;exact e b (Eh a b) J (Chn.next d.tp d.tq d.lp d.lq d.bd.2.2.1 h c)
theorem ChOk.gcd(a:ChOk K p q):Cd (Db K p q) (JL p q):=by
 obtain⟨r,b⟩:=Chn.ends a _ _ _ (Aa _) (Chn.start a.tp a.tq a.lp a.lq a.bd.2.2.1);rw[<-b.gc,OZ];exact LD b.ta b.wa.ln a.bd.2.2.2
theorem TC(M:Nat)(v:G)(p:List Rat)(w:F)(h:Jf w v p)(tp:Jd p=p)(b:Cd M p)(a:M<=1000000000):
 Calls H 26 #[v] w λe c=>∃u,e=.returned u/\Jf c u (JC p)/\Bl w c:=
 Ss v p w h (b.sqs a) tp λi=>b.monS tp a i
theorem fL(M:Nat)(v:G)(p:List Rat)(w:F)(h:RowK false w v p)(tp:Jd p=p)(b:Cd M p)(a:M<=1000000000)(hl:p.length<=1000000000):
 Calls H 40 #[v] w λe c=>∃u,e=.returned u/\RowK false c u (JC p)/\Bl w c:=
 Sw v p w h tp (b.sqs a) (λd=>by
  rw[Fm,Rat.one_mul];exact Sq.of ((b.smq _).inv (JA tp d)) a) J
theorem fM(M:Nat)(b c:G)(p q:List Rat)(w:F)(f:RowK false w b p)(g:RowK false w c q)(hp:Cd M p)(hq:Cd M q)(tp:Jd p=p)(tq:Jd q=q)(q0:q≠[])(i:JC q=q)(k:(p.length+3)*(M+1)<=1000000000)(hl:p.length<=1000):
 Calls H 41 #[b,c] w λe d=>∃u v,e=.returned (.tuple #[u,v])/\RowK false d u (JS p q)/\RowK false d v (JU p q)/\Bl w d:=by
 obtain⟨D,E,a⟩:=hp.dvn hq (Oi tq q0 i);have j:(p.length+3)*(M+1)=p.length*(M+1)+3*(M+1):=Ay _ _ _;exact Se _ M b c p q w f g (a.divS p.length J) a.start a.sq tp tq q0 hl
theorem fN(M:Nat)(a b:G)(p q:List Rat)(w:F)(d:Jf w a p)(f:Jf w b q)(hp:Cd M p)(hq:Cd M q)(tp:Jd p=p)(tq:Jd q=q)(j:JC q=q)(n:2*((p.length+3)*(M+1))<=1000000000):
 Calls H 22 #[a,b] w λe c=>∃u v,e=.returned (.tuple #[u,v,.bool (decide (q≠[]))])/\Jf c u (if q=[]then []else JS p q)/\Jf c v (if q=[]then []else JU p q)/\Bl w c:=by
 have k:(p.length+3)*(M+1)=p.length*(M+1)+3*(M+1):=Ay _ _ _;refine SI M a b p q w d f (hp.sqs J) hq.smq tp tq λq0=>?_;obtain⟨D,E,g⟩:=hp.dvn hq (Oi tq q0 j);obtain⟨m,i⟩:=ex (p.length-(q.length-1));have l:m*(M+1)<=p.length*(M+1):=Ak _ J;rw[i];exact g.sizes J
attribute [local go_sem] Oper.semAt_some
theorem LH(M:Nat)(S T:G)(p q:List Rat)(w:F)(t:Jf w S p)(y:Jf w T q)(hp:Cd M p)(hq:Cd M q)(tp:Jd p=p)(tq:Jd q=q)(R:JC q=q)(L:2*((p.length+3)*(M+1))<=1000000000):
 Calls H 46 #[S,T] w λe U=>∃u,e=.returned u/\Jf U u (Dk p q)/\Bl w U:=by
 obtain⟨j,la,k,rfl⟩:=t.form;obtain⟨l,lb,m,rfl⟩:=y.form;have r:=(((Mem.nil w).push (.cell 25 (C j la k)) (cs:=#[C j la k]) ⟨rfl,rfl⟩).push (.cell 25 (C l lb m)) (cs:=#[C l lb m]) ⟨rfl,rfl⟩).push (.cell 25 (C none 0 0)) (cs:=#[C none 0 0]) ⟨rfl,rfl⟩;simp only[A1]at r;obtain⟨W0,s⟩:=ex (((w.alloc (E #[C j la k] 25)).alloc (E #[C l lb m] 25)).alloc (E #[C none 0 0] 25));have B:=O s;have a:Hid (Mem w W0 [some (w.heap.size,.cell 25 (C j la k)),some (w.heap.size+1,.cell 25 (C l lb m)),some (w.heap.size+1+1,.cell 25 (C none 0 0))]):=O (by rw[<-s];exact r);have o:=O (fN M _ _ p q W0 (t.below a.o.2.2) (y.below a.o.2.2) hp hq tp tq R L);obtain⟨bq,N⟩:=ex (decide (q≠[]));rw[N,show(if q=[]then []else JS p q)=Dk p q from rfl]at o;have c0:=(a.o.cell (i:=0) rfl).1.cell;have c1:=(a.o.cell (i:=1) rfl).1.cell;have X:=(a.o.cell (i:=2) rfl).1;have A:=O a.o.2.2;clear r s t y hp hq tp tq R L N a;go_enter Tryz.func46,Tryz.ntmps46
 go_upto_region 1 with fail
 rw[B.o];clear B;go_upto_region 2 with(go_at_call 22;refine o.o.mono ?_;clear o;rintro e n ⟨u4,v4,rfl,z,P,f⟩;obtain⟨b,c,c4,rfl⟩:=z.form;obtain⟨D,Q,K,rfl⟩:=P.form)
 have d:Bl n ((n.alloc (E #[C b c c4] 25)).alloc (E #[C D Q K] 25)):=(Ba n _).alloc (by rw[A1];omega) _;have nb:=(BM n 25 (C b c c4)).alloc (E #[C D Q K] 25);have e5:=nb.cell;have g:=boxed_below (boxed_below X f) d;have x0:=g.cell;have x1:=g.frozen;have W:=O (LE g (x:=C b c c4) (z.below d));have V:=O (((Bt A.o f).trans (d.mono (Ar A.o.size f.size))).setCell (p:=⟨w.heap.size+1+1,0,none⟩) (by show w.heap.size<=w.heap.size+1+1;omega) (C b c c4));clear c0 c1 z P f nb g d;go_wp2_with fail
 exact BA (v:=.agg #[C b c c4]) (by simp[results,Tryz.results46,go_sem,x0]) rfl ⟨_,rfl,W.o,V.o⟩
structure FrOk(K:Nat)(p:List Rat):Prop where
 ch:ChOk K p (Jh p)
 le:(p.length+3)*(Db K p (Jh p)+1)*2<=1000000000
theorem FrOk.cd(h:FrOk K p):Cd (Db K p (Jh p)) p:=(show Cd K p from h.ch.cp).mono (by have:=He K p (Jh p);omega)
theorem FrOk.sl(h:FrOk K p)(i:Nat):Sq (Ey p i):=by
 have b:=(show Cd K (Jh p)from h.ch.cq).sqs h.ch.bd.2.1;have a:=b.at i;unfold Jh at a;rwa[JR,Ic]at a
theorem Ok(K:Nat)(v:G)(p:List Rat)(w:F)(h:Jf w v p)(m:FrOk K p):
 Calls H 16 #[v] w λe w'=>∃u,e=.returned u/\Jf w' u (XO p)/\Bl w w':=by
 have Qi:Tryz.prog.follows .mixedOrders=true:=by kernel_rfl
 obtain⟨j,la,k,rfl⟩:=h.form;have M0:=((Mem.nil w).push (.cell 25 (C j la k)) (cs:=#[C j la k]) ⟨rfl,rfl⟩).push (.poly []) (cs:=#[C none 0 0]) (Hf _);simp only[A1]at M0;obtain⟨W0,ae⟩:=ex ((w.alloc (E #[C j la k] 25)).alloc (E #[C none 0 0] 25));have Qc:=O ae;have h9:=m.le;have h8:=m.ch.bd;have h7:(p.length+3)*(Db K p (Jh p)+1)=(p.length+1)*(Db K p (Jh p)+1)+2*(Db K p (Jh p)+1):=by rw[<-Ay]
 have Qa:=m.ch.gcd;have Qb:=XN m.ch.tp m.ch.tq;obtain⟨Qe,Qj,Qf,Qd⟩:=D0 (λ(V:F) (P:Bl w V)=>OV (.agg #[C j la k]) p V (h.below P) (m.cd.sqs h8.1) m.sl) (λ(V:F) (P:Bl w V) (y:G) (R:Jf V y (Jh p))=>Oe K (.agg #[C j la k]) y p (Jh p) V (h.below P) R m.ch) (λ(V:F) (P:Bl w V) (y:G) (R:Jf V y (JL p (Jh p)))=>LH (Db K p (Jh p)) (.agg #[C j la k]) y p (JL p (Jh p)) V (h.below P) R m.cd Qa m.ch.tp (YG _ _) Qb J) λ(V:F) (y:G) (R:Jf V y (Dk p (JL p (Jh p))))=>TC ((p.length+1)*(Db K p (Jh p)+1)) y (Dk p (JL p (Jh p))) V R (Oj _ _) (m.cd.ov Qa (YG _ _) Qb) J;rw[show JC (Dk p (JL p (Jh p)))=XO p from rfl]at Qd;have M1:Hid (Mem w W0 [some (w.heap.size,.cell 25 (C j la k)),some (w.heap.size+1,.poly ([]))]):=O (by rw[<-ae];exact M0);clear M0 ae h m h9 h8 h7 Qa Qb;go_enter Tryz.func16,Tryz.ntmps16
 go_upto_region 1 with fail
 rw[Qc.o];clear Qc;refine Jn Qi [[],[],[],[2],[1,3,3],[0,4,4],[5,5],[6,6,0,1,2,3,4,5,6]] (by kernel_rfl) DQ
  (λD ad V=>∃(ta tb T U W X tg:G) (S:Option (Nat × Dat)),ad={ tmps:=#[.agg #[C j la k],.pointer (some ⟨w.heap.size,0,none⟩),.pointer (some ⟨w.heap.size+1,0,none⟩),ta,tb,T,U,W,X,tg],defers:=[] }/\Hid ((D 0=true->ta=.agg #[C j la k])/\(D 1=true->tb=.agg #[C j la k])/\(D 2=true->T=.agg #[C j la k])/\(D 3=true->Has V U (.poly (Jh p)))/\(D 4=true->Has V W (.poly (JL p (Jh p))))/\(D 5=true->Has V X (.poly (Dk p (JL p (Jh p)))))/\(D 6=true->Has V tg (.poly (XO p)))/\((D 7=false->S=some (w.heap.size+1,.poly ([])))/\(D 7=true->S=some (w.heap.size+1,.poly (XO p)))))/\Hid (Mem w V [some (w.heap.size,.cell 25 (C j la k)),S]))
  ⟨_,_,_,_,_,_,_,_,rfl,O ⟨Y,Y,Y,Y,Y,Y,Y,⟨λ_=>rfl,Y⟩⟩,O (M1.o).drew⟩ ?step1 ?fin1
 case step1=>
  rintro D ad V i ds ah hi g af ⟨ta,tb,T,U,W,X,tg,S,rfl,b,f⟩;have ai:i<8:=(Ad.1 hi).1;obtain rfl|rfl|rfl|rfl|rfl|rfl|rfl|rfl:=LK i J
  all_goals
   simp only[Af,Ae,Ah]at hi;subst hi
  . have e0:=(f.o.cell (i:=0) rfl).1.cell;clear g;refine Za ?_;exact⟨_,_,_,_,_,_,_,_,rfl,(Dh b),O (f.o)⟩
  . have e0:=(f.o.cell (i:=0) rfl).1.cell;clear g;refine Za ?_;exact⟨_,_,_,_,_,_,_,_,rfl,(Dn b),O (f.o)⟩
  . have e0:=(f.o.cell (i:=0) rfl).1.cell;clear g;refine Za ?_;exact⟨_,_,_,_,_,_,_,_,rfl,(Df b),O (f.o)⟩
  . obtain rfl:=(b.o.2.2.1 (g 2 Y));have L:=O (Qe.o V f.o.2.2);clear g;refine Jb rfl rfl λK hK=>?_;go_simp;go_wp2_with(go_at_call 24;refine L.o.mono ?_;rintro e w5 ⟨v5,rfl,M,d⟩)
    obtain⟨o,q,_,_,x,z,A,B⟩:=b.o;exact⟨_,_,_,_,_,_,_,_,rfl,O ⟨o,q,λ_=>rfl,λ_=>M,λh=>(x h).below d,λh=>(z h).below d,λh=>(A h).below d,B⟩,O (f.o.below d)⟩
  . obtain rfl:=(b.o.2.1 (g 1 Y));have N:=(b.o.2.2.2.1 (g 3 Y));have L:=O (Qj.o V f.o.2.2 _ N);clear g N;refine Jb rfl rfl λK hK=>?_;go_simp;go_wp2_with(go_at_call 8;refine L.o.mono ?_;rintro e w5 ⟨v5,rfl,M,d⟩)
    obtain⟨o,_,s,t,_,z,A,B⟩:=b.o;exact⟨_,_,_,_,_,_,_,_,rfl,O ⟨o,λ_=>rfl,s,λh=>(t h).below d,λ_=>M,λh=>(z h).below d,λh=>(A h).below d,B⟩,O (f.o.below d)⟩
  . obtain rfl:=(b.o.1 (g 0 Y));have N:=(b.o.2.2.2.2.1 (g 4 Y));have L:=O (Qf.o V f.o.2.2 _ N);clear g N;refine Jb rfl rfl λK hK=>?_;go_simp;go_wp2_with(go_at_call 46;refine L.o.mono ?_;rintro e w5 ⟨v5,rfl,M,d⟩)
    obtain⟨_,q,s,t,x,_,A,B⟩:=b.o;exact⟨_,_,_,_,_,_,_,_,rfl,O ⟨λ_=>rfl,q,s,λh=>(t h).below d,λh=>(x h).below d,λ_=>M,λh=>(A h).below d,B⟩,O (f.o.below d)⟩
  . have h0:=((Dl b) (g 5 Y));have L:=O (Qd.o V _ h0);clear g h0;refine Jb rfl rfl λK hK=>?_;go_simp;go_wp2_with(go_at_call 26;refine L.o.mono ?_;rintro e w5 ⟨v5,rfl,M,d⟩)
    obtain⟨o,q,s,t,x,z,_,B⟩:=b.o;exact⟨_,_,_,_,_,_,_,_,rfl,O ⟨o,q,s,λh=>(t h).below d,λh=>(x h).below d,λh=>(z h).below d,λ_=>M,B⟩,O (f.o.below d)⟩
  . obtain rfl:=Dw b af;have hv:=((Dq b) (g 6 Y));obtain⟨a1,l1,c1,rfl⟩:=Jf.form (show Jf V _ _ from hv);obtain⟨a,l,c,n,r⟩:=f.o.poly2 (i:=1) rfl;have e0:=n.cell;have f0:=n.frozen;clear g;refine Za ?_;obtain⟨o,q,s,t,x,z,A,_⟩:=b.o;exact⟨_,_,_,_,_,_,_,_,rfl,O ⟨o,q,s,λh=>(t h).set1 n rfl _,λh=>(x h).set1 n rfl _,λh=>(z h).set1 n rfl _,λh=>(A h).set1 n rfl _,⟨λh=>by simp at h,λ_=>rfl⟩⟩,O (f.o.putPoly (i:=1) rfl hv)⟩
 rintro D ad V2 Q ⟨ta,tb,T,U,W,X,tg,S,rfl,b,f⟩;obtain rfl:=b.o.2.2.2.2.2.2.2.2 (Q 7 DQ);obtain rfl:=b.o.1 (Q 0 DQ);obtain rfl:=b.o.2.1 (Q 1 DQ);obtain rfl:=b.o.2.2.1 (Q 2 DQ);clear b Q M1;have M2:Hid (Mem w V2 [some (w.heap.size,.cell 25 (C j la k)),some (w.heap.size+1,.poly (XO p))]):=f;clear f;obtain⟨a3,l3,c3,n3,r3⟩:=M2.o.poly2 (i:=1) rfl;have Qh:=n3.cell;have Qg:=O M2.o.2.2;go_wp2_with fail
 exact BA (v:=.agg #[C a3 l3 c3]) (by simp[results,Tryz.results16,go_sem,Qh]) rfl ⟨_,rfl,r3,Qg.o⟩
theorem TD(K:Nat)(v:G)(p:List Rat)(w:F)(h:RowK false w v p)(b:FrOk K p):
 Calls H 17 #[v] w λe s=>∃u,e=.returned u/\RowK false s u (XO p)/\Bl w s:=by
 obtain⟨a,la,ca,rfl⟩:=h.form;obtain⟨r,M,N,X,_⟩:=h.formsF;by_cases c:p=[]
 . have W:(la:Int)=0:=by rw[r,c];rfl
   have t:=O (show RowK false w (C a la ca) (XO p)by rw[c]at h ⊢;exact h);clear h c b;go_enter Tryz.func17,Tryz.ntmps17
   go_wp2_with fail
   go_ret;exact⟨_,rfl,t.o,BB _ _⟩
 . have U:¬(la:Int)=0:=by have:=Al.2 c;omega
   have A:=b.le;have q:=b.ch.bd;have z:(p.length+3)*(Db K p (Jh p)+1)=(p.length+1)*(Db K p (Jh p)+1)+2*(Db K p (Jh p)+1):=by rw[<-Ay]
   have f:=b.ch.gcd;have j:=XN b.ch.tp b.ch.tq;have i:=Of b.ch.tp b.ch.tq (Or.inl c);have x:=b.ch.ln;have k:Dk p (JL p (Jh p))=JS p (JL p (Jh p)):=BE i;obtain⟨m,o,n⟩:=Dg (bW _ p w h (b.cd.sqs q.1) J) (λ(V:F) (l:Bl w V) (y:G) (d:RowK false V y (Jh p))=>fE K _ y p (Jh p) V (h.below l) d b.ch) λ(V:F) (l:Bl w V) (y:G) (d:RowK false V y (JL p (Jh p)))=>fM (Db K p (Jh p)) _ y p (JL p (Jh p)) V (h.below l) d b.cd f b.ch.tp (YG _ _) i j J J;have g:=O (λ(V:F) (y:G) (d:RowK false V y (JS p (JL p (Jh p))))=>fL ((p.length+1)*(Db K p (Jh p)+1)) y (JS p (JL p (Jh p))) V d (IA _ _) (by rw[<-k];exact b.cd.ov f (YG _ _) j) J (by
    have T:(JS p (JL p (Jh p))).length<=p.length:=by
     unfold JS;refine Ar (J3 _) ?_;rw[(YJ _ _ _ _ _).1];omega
    omega))
   rw[show JC (JS p (JL p (Jh p)))=XO p by unfold XO;rw[k]]at g;clear h c b A q z f j i x k r M N;go_enter Tryz.func17,Tryz.ntmps17
   go_wp2_with(first
    |(go_at_call 47;refine m.o.mono ?_;clear m;rintro e w1 ⟨u1,rfl,P,hq⟩)
    |(go_at_call 13;refine(o.o _ hq _ P).mono ?_;clear o;rintro e w2 ⟨u2,rfl,Q,B⟩;have hq:=Bt hq B)
    |(go_at_call 41;refine(n.o _ hq _ Q).mono ?_;clear n;rintro e w3 ⟨u3,v3,rfl,R,ad,D⟩;have hq:=Bt hq D)
    |(go_at_call 40;refine(g.o _ _ R).mono ?_;clear g;rintro e w4 ⟨u4,rfl,S,L⟩;have hq:=Bt hq L))
   go_ret;exact⟨_,rfl,S,hq⟩
end M3
end
open Go.RowKit Go.Shelf
variable{r:Bool}{L:List (List Rat × Nat)}{p:List Rat}{cs:List G}{B base c l t:Nat}{a:Option Addr}{v:G}{W W':F}
theorem Tryz.infoPart:(Tryz.prog.info? 44).map (λi=>(i.zero,i.size,i.bytes))=some (some (.agg #[C none 0 0,I .i64 0]),2,32):=by kernel_rfl
theorem Tryz.infoRPart:(Tryz.prog.info? 46).map (λi=>(i.zero,i.size,i.bytes))=some (some (.agg #[C none 0 0,I .i64 0]),2,32):=by kernel_rfl
def EL(r:Bool):TypeId:=match r with|true=>44|false=>46
def Gv(r:Bool):TypeId:=match r with|true=>39|false=>41
def zP:Array G:=#[C none 0 0,.int .i64 0]
theorem fO(r:Bool):Tryz.prog.underlying (Gv r)=some (.slice (EL r)):=by
 cases r with
 |true=>exact Tryz.underlying39
 |false=>exact Tryz.underlying41
theorem fP(r:Bool):∃i,Tryz.prog.info? (EL r)=some i/\i.zero=some (.agg zP)/\i.size=2/\i.bytes=32:=by
 cases r with
 |true=>
  obtain⟨i,a,b,c,d⟩:=Bo Tryz.infoPart;exact⟨i,a,b,c,d⟩
 |false=>
  obtain⟨i,a,b,c,d⟩:=Bo Tryz.infoRPart;exact⟨i,a,b,c,d⟩
def Hh(r:Bool)(W W':F):Prop:=∀B,B<W.heap.size->(∀cs m,W.heap[B]?≠some (E cs (EL r) m))->W'.heap[B]?=W.heap[B]?
theorem Hh.at(h:Hh r W W'){cs:Array G}{t:TypeId}{m:Nat × Nat}(a:W.heap[B]?=some (E cs t m))(b:t≠EL r):W'.heap[B]?=W.heap[B]?:=
 h B (Ab.1 a).1 λc d e=>by
  rw[a]at e;simp only[Ah,Bu]at e;exact b e.2.1
theorem fQ(k:IntKind)(r:Bool):NJ k≠EL r:=by cases r<;>cases k<;>decide
theorem fR(k:Bool)(r:Bool):EB k≠EL r:=by cases r<;>cases k<;>decide
theorem Hh.row(h:Hh r W W'){k:IntKind}{ds:List Nat}(t:Row k W v ds):Row k W' v ds:=by
 obtain⟨a,c,e,l,n,o,d⟩:=t;refine⟨a,c,e,l,n,o,?_⟩;rcases d with d|⟨b,off,i,g,q⟩
 . exact Or.inl d
 . obtain⟨cs,m,p⟩:=id g;have f:=h.at p (fQ k r);refine Or.inr ⟨b,off,i,g.of f,λj s=>?_⟩;rw[<-q j s];simp only[World.cell?,f]
theorem Hh.rowK(h:Hh r W W'){k:Bool}{qs:List Rat}(A:RowK k W v qs):RowK k W' v qs:=by
 obtain⟨a,cap,e,o,p,q,c⟩:=A;refine⟨a,cap,e,o,p,q,?_⟩;rcases c with c|⟨b,n,cs,d,t⟩
 . exact Or.inl c
 . refine Or.inr ⟨b,n,cs,(h.at d (fR k r)).trans d,λj w=>?_⟩;obtain⟨x,y,z,u,f,i,l,m,s⟩:=t j w;exact⟨x,y,z,u,f,i,l,m,s.keep λ_ _ _ g=>h.row g⟩
def Gg(r:Bool)(W:F)(cs:List G)(L:List (List Rat × Nat)):Prop:=
 cs.length=L.length*2/\∀j p t,L[j]?=some (p,t)->∃x,cs[j*2]?=some x/\cs[j*2+1]?=some (.int .i64 (t:Int))/\RowK r W x p
theorem Gg.keep(h:Gg r W cs L)(d:∀v qs,RowK r W v qs->RowK r W' v qs):Gg r W' cs L:=by
 refine⟨h.1,λj p t e=>?_⟩;obtain⟨x,a,b,c⟩:=h.2 j p t e;exact⟨x,a,b,d _ _ c⟩
theorem Gg.below{r:Bool}{W W':F}{cs:List G}{L:List (List Rat × Nat)}(h:Gg r W cs L)(a:Bl W W'):Gg r W' cs L:=h.keep λ_ _ g=>g.below a
theorem Gg.snoc(h:Gg r W cs L){x:G}(k:RowK r W x p):Gg r W (cs++[x,I .i64 (t:Int)]) (L++[(p,t)]):=by
 refine⟨by simp[h.1];omega,λj l m e=>?_⟩;by_cases i:j<L.length
 . rw[AJ i]at e;obtain⟨y,b,c,f⟩:=h.2 j l m e;exact⟨y,by rw[AJ (by have:=h.1;omega)];exact b,by rw[AJ (by have:=h.1;omega)];exact c,f⟩
 . rw[AC J]at e;obtain⟨d,g⟩:=ex (j-L.length);rw[g]at e;cases d with
   |succ d=>simp at e
   |zero=>
    simp at e;obtain⟨rfl,rfl⟩:=e;have a:j=L.length:=J
    subst a;refine⟨x,?_,?_,k⟩
    . rw[AC (by have:=h.1;omega),h.1,A3];rfl
    . rw[AC (by have:=h.1;omega),h.1,show L.length*2+1-L.length*2=1 by omega];rfl
def EZ(r:Bool)(base:Nat)(W:F)(v:G)(L:List (List Rat × Nat)):Prop:=
 (v=C none 0 0/\L=[])\/∃g cap a,v=C (some ⟨g,0,none⟩) L.length cap/\base<=g/\W.heap[g]?=some (E a (EL r) (0,0))/\L.length<=cap/\cap<=maxLen/\a.size=cap*2/\Gg r W (a.toList.take (L.length*2)) L
theorem EZ.nil(r:Bool)(base:Nat)(W:F):EZ r base W (C none 0 0) []:=Or.inl ⟨rfl,rfl⟩
theorem EZ.below{r:Bool}{base:Nat}{W W':F}{v:G}{L:List (List Rat × Nat)}(h:EZ r base W v L)(b:Bl W W'):EZ r base W' v L:=by
 rcases h with h|⟨g,cap,c,d,e,a,f,i,j,k⟩
 . exact Or.inl h
 . exact Or.inr ⟨g,cap,c,d,e,(b.block g (Ab.1 a).1).trans a,f,i,j,k.below b⟩
theorem EZ.form(h:EZ r base W v L):∃a c,v=C a L.length c/\L.length<=c/\c<=maxLen:=by
 rcases h with⟨rfl,rfl⟩|⟨g,cap,e,rfl,_,_,b,d,_⟩
 . exact⟨none,0,rfl,Y,by unfold maxLen;omega⟩
 . exact⟨_,cap,rfl,b,d⟩
theorem EZ.set(h:EZ r base W v L)(b:Boxed W B 25 (C a l c)){u:G}(s:∀v qs,RowK r W v qs->RowK r (W.setCell ⟨B,0,none⟩ u) v qs):EZ r base (W.setCell ⟨B,0,none⟩ u) v L:=by
 rcases h with h|⟨g,cap,i,j,k,d,m,n,o,p⟩
 . exact Or.inl h
 . have f:g≠B:=λe=>by
    subst e;have q:W.heap[g]?=some (E #[C a l c] 25 (0,0)):=b;rw[q]at d;simp only[Ah,Bu]at d;have:=d.2.1;revert this;cases r<;>decide
   exact Or.inr ⟨g,cap,i,j,k,(BC W ⟨B,0,none⟩ u g f).trans d,m,n,o,p.keep s⟩
theorem fS(r:Bool)(base:Nat)(W:F)(v:G)(L:List (List Rat × Nat))(h:EZ r base W v L)(hx:RowK r W (C a l c) p)(hl:L.length+1<=1099511627776)(S:base<=W.heap.size):
 ∃v' z,(Builtin.append_ #[Gv r,Gv r] (Gv r) #[v,C (some ⟨W.heap.size,0,none⟩) 1 1]).run H (W.alloc (E #[C a l c,I .i64 (t:Int)] (EL r)))=.ok v' z/\EZ r base z v' (L++[(p,t)])/\Hh r W z/\(∀n w0,n<=base->Below n w0 W->Below n w0 z)/\W.heap.size<=z.heap.size:=by
 obtain⟨i,U,hz,y,ae⟩:=fP r;have V:=fO r;have k:Bl W (W.alloc (E #[C a l c,I .i64 (t:Int)] (EL r))):=Ba W _;obtain⟨b,ad⟩:=ex (W.alloc (E #[C a l c,I .i64 (t:Int)] (EL r)));have Qf:b.heap[W.heap.size]?=some (E #[C a l c,I .i64 (t:Int)] (EL r) (0,0)):=by rw[<-ad];exact BD W _
 rw[ad]at k ⊢;have Ql:=hx.below k;have K:∀j c',[Value.slice a l c,I .i64 (t:Int)][j]?=some c'->b.cell? ((⟨W.heap.size,0,none⟩:Addr).add j)=some c':=λj c' f=>by
  rw[Y8,A8];exact cell_of Qf (by simpa using f)
 have Qh:∀c'∈[Value.slice a l c,I .i64 (t:Int)],c'.oneCell'=true:=λc' f=>by
  simp at f;rcases f with rfl|rfl<;>rfl
 have Qk:(Value.agg zP).cells=zP:=rfl;have Qp:zP.size=2:=rfl;have grown:∀(cs:List G) (w:Nat) (m:Nat),m=L.length+1->Gg r b (cs++[C a l c,I .i64 (t:Int)]) (L++[(p,t)])->cs.length=L.length*2->
  EZ r base (b.drew.alloc (E (cs.toArray++[Value.slice a l c,I .i64 (t:Int)].toArray++Builtin.zeroCells zP (grownCap b m w (EL r)-m)) (EL r))) (C (some ⟨b.heap.size,0,none⟩) m (grownCap b m w (EL r))) (L++[(p,t)]):=by
  intro cs w m hm f x;subst hm;have Qm:=grownCap_ge b (L.length+1) w (EL r);have Qq:=grownCap_le_maxLen b (L.length+1) w (EL r) (by unfold maxLen;omega);have Qr:Bl b (b.drew.alloc (E (cs.toArray++[Value.slice a l c,I .i64 (t:Int)].toArray++Builtin.zeroCells zP (grownCap b (L.length+1) w (EL r)-(L.length+1))) (EL r))):=((BB _ b).drew).alloc (Aa _) _;refine Or.inr ⟨b.heap.size,_,_,by rw[Ai];rfl,Ar S k.size,BD b.drew _,by rw[Ai];exact Qm,Qq,?_,?_⟩
  . simp only[Array.size_append,Ao,size_zeroCells,Qp,x,An,AD];omega
  . have e:(cs.toArray++[Value.slice a l c,I .i64 (t:Int)].toArray++Builtin.zeroCells zP (grownCap b (L.length+1) w (EL r)-(L.length+1))).toList.take ((L++[(p,t)]).length*2)=cs++[C a l c,I .i64 (t:Int)]:=by
     simp only[Array.toList_append];have M:(L++[(p,t)]).length*2=(cs++[Value.slice a l c,I .i64 (t:Int)]).length:=by simp;omega
     rw[M];exact List.take_left
    rw[e];exact f.below Qr
 have fin:∀o,Hh r W (b.drew.alloc o)/\(∀n w0,n<=base->Below n w0 W->Below n w0 (b.drew.alloc o))/\W.heap.size<=(b.drew.alloc o).heap.size:=λo=>by
  have N:Bl W (b.drew.alloc o):=(k.drew).alloc (by exact k.size) _;exact⟨λB D _=>N.block B D,λn w0 u R=>R.trans (N.mono (Ar u S)),N.size⟩
 rcases h with⟨rfl,rfl⟩|⟨g,cap,d,rfl,h2,Q,h4,h5,h6,h7⟩
 . have s:=run_append_nil (P:=H) b (Gv r) (Gv r) (EL r) i _ V U hz ⟨W.heap.size,0,none⟩ 1 1 [C a l c,I .i64 (t:Int)] (by rw[y];rfl) K J J (by rw[ae];omega);rw[Qk]at s;refine⟨_,_,s,?_,fin _⟩;have:=grown [] 0 1 rfl (by rw[Ap];exact Gg.snoc (cs:=[]) (L:=[]) ⟨rfl,λj p t e=>by simp at e⟩ Ql) rfl;simpa using this
 . have A:b.heap[g]?=some (E d (EL r) (0,0)):=(k.block g (Ab.1 Q).1).trans Q;have x:(d.toList.take (L.length*2)).length=L.length*2:=by rw[Am];have h0:d.toList.length=d.size:=CT;omega
   have X:=(h7.below k).snoc (t:=t) Ql;by_cases af:L.length+1<=cap
   . have s:=run_append_room (P:=H) b (Gv r) (Gv r) (EL r) i V U g L.length cap d A ⟨W.heap.size,0,none⟩ 1 1 [C a l c,I .i64 (t:Int)] (by rw[y];rfl) K Qh af (by rw[y];simp;omega);rw[y]at s;obtain⟨q,T⟩:=ex ((d.toList.take (L.length*2)++[Value.slice a l c,I .i64 (t:Int)]++d.toList.drop (L.length*2+[Value.slice a l c,I .i64 (t:Int)].length)).toArray);rw[T]at s;have Qo:=setRow_heap b g d q (EL r) (0,0) A;have Qd:Hh r b (b.setRow g q):=λB D u=>setRow_other b g B q λe=>u d (0,0) (by rw[e];exact A);have Qg:b.heap.size<=(b.setRow g q).heap.size:=(below_setRow (B:=0) (BB _ b) (AK _) q).size;refine⟨_,_,s,?_,λB D u=>?_,λn w0 u R=>below_setRow (R.trans (k.mono (Ar u S))) (Ar u h2) q,Ar k.size Qg⟩
     . refine Or.inr ⟨g,cap,q,by rw[Ai];rfl,h2,Qo,by rw[Ai];exact af,h5,?_,?_⟩
       . rw[<-T];simp only[Ao,Ai,AV,x,An,AD];have h0:d.toList.length=d.size:=CT;omega
       . have e:q.toList.take ((L++[(p,t)]).length*2)=d.toList.take (L.length*2)++[C a l c,I .i64 (t:Int)]:=by
          rw[<-T];have M:(L++[(p,t)]).length*2=(d.toList.take (L.length*2)++[Value.slice a l c,I .i64 (t:Int)]).length:=by simp[x];omega
          rw[M];exact List.take_left
         rw[e];exact X.keep λ_ _ g=>Qd.rowK g
     . have Qn:B≠g:=λe=>u d (0,0) (by rw[e];exact Q);exact(setRow_other b g B q Qn).trans (k.block B D)
   . have ah:∀j c',(d.toList.take (L.length*2))[j]?=some c'->b.cell? ((⟨g,0,none⟩:Addr).add j)=some c':=λj c' f=>by
      rw[Y8,A8];rw[Fs]at f;split at f
      . rw[Cj]at f;exact cell_of A f
      . cases f
     have s:=run_append_grow (P:=H) b (Gv r) (Gv r) (EL r) i _ V U hz ⟨g,0,none⟩ L.length cap (d.toList.take (L.length*2)) (by rw[y];exact x) ah ⟨W.heap.size,0,none⟩ 1 1 [C a l c,I .i64 (t:Int)] (by rw[y];rfl) K J J (by rw[ae];exact growslice_fits J J);rw[Qk]at s;exact⟨_,_,s,grown _ cap _ rfl X x,fin _⟩
namespace M3
theorem Mem.farP{w W W':F}{bs:List (Option (Nat × Dat))}{r:Bool}(M:Mem w W bs)(a:Hh r W W')(e:Bl w W')(f:∀(i:Nat) B d,bs[i]?=some (some (B,d))->d.ty≠EL r):Mem w W' bs:=by
 refine⟨λi B d h=>?_,M.2.1,e⟩;obtain⟨⟨cs,b,c⟩,j⟩:=M.1 i B d h;exact⟨⟨cs,(a.at b (f i B d h)).trans b,c.keep (λ_ _ _ g=>a.row g) (Or.inr λ_ _ g=>a.rowK g)⟩,j⟩
end M3

