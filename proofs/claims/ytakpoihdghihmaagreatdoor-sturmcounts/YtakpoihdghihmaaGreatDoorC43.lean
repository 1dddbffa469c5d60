import Derived.Test.YtakpoihdghihmaaGreatDoorC42
open Go.Value renaming slice->C,bool->E,pointer->F,agg->N,int->B
open Go renaming undef->G,World->I,Value->L
open Go.Obj renaming cells->H
set_option maxRecDepth 100000
set_option maxHeartbeats 16000000
namespace Go.Proofs.YtakpoihdghihmaaGreatDoor
attribute [local go_sem] Oper.semAt_some
section
open Go.RowKit Go.Shelf
def lenOf:L->Nat|C _ l _=>l|_=>0
def MC(w V:I)(a b:L)(Q R:List Rat):Prop:=RowK false V a Q/\RowK false V b R/\Bl w V
theorem MC.below{w V V':I}{b c:L}{Q R:List Rat}(h:MC w V b c Q R)(a:Bl V V'):MC w V' b c Q R:=⟨h.1.below a,h.2.1.below a,Bt h.2.2 a⟩
def Pw(w wr V:I)(a b:L)(Q R:List Rat):Prop:=MC w V a b Q R/\Bl wr V
theorem Pw.below{w wr V V':I}{b c:L}{Q R:List Rat}(h:Pw w wr V b c Q R)(a:Bl V V'):Pw w wr V' b c Q R:=⟨h.1.below a,Bt h.2 a⟩
def Ih(S:Nat->List Rat->List Rat->Prop)(la:Nat)(ps qs R Q:List Rat)(k:Nat):Prop:=
 Jd R=R/\Jd Q=Q/\k+R.length<=la/\Q.length<=la/\(∀x,ev ps x=ev qs x*ev Q x+ev R x)/\(∀i,i+qs.length<=R.length->cf Q i=0)/\S k R Q
structure DivS(A la:Nat)(S:Nat->List Rat->List Rat->Prop)(qs:List Rat):Prop where
 next:∀(k:Nat) (R Q:List Rat) (n:Nat) (a:Rat),S k R Q->(∀i,i+qs.length<=R.length->cf Q i=0)->qs.length<=R.length->n=R.length-qs.length->a=cf R (R.length-1)/cf qs (qs.length-1)->
  (∀i,cf (YA R (JB (Jd (Dq n [a])) qs)) i=cf R i-(if n<=i then a*cf qs (i-n)else 0))->(∀i,cf (XR Q (Jd (Dq n [a]))) i=if i=n then a else cf Q i)->S (k+1) (YA R (JB (Jd (Dq n [a])) qs)) (XR Q (Jd (Dq n [a])))
 size:∀(k:Nat) (R Q:List Rat),k<=la->S k R Q->Da R/\Da Q/\∃z,z+(2*A+1)<=1000000/\∀i,Db z (cf R i)
variable{ps qs:List Rat}{S:Nat->List Rat->List Rat->Prop}
theorem Ih.start(a:Jd ps=ps)(h:S 0 ps []):Ih S ps.length ps qs ps [] 0:=by
 refine⟨a,rfl,O,Z,λx=>?_,λi _=>YY i,h⟩;show _=ev qs x*0+_;grind
theorem Ih.next{A la:Nat}{S:Nat->List Rat->List Rat->Prop}{ps qs R Q:List Rat}{k n:Nat}{a:Rat}(o:DivS A la S qs)(h:Ih S la ps qs R Q k)(q:Jd qs=qs)(g:qs≠[])(hl:qs.length<=R.length)(f:n=R.length-qs.length)
(d:a=cf R (R.length-1)/cf qs (qs.length-1)):Ih S la ps qs (YA R (JB (Jd (Dq n [a])) qs)) (XR Q (Jd (Dq n [a]))) (k+1):=by
 obtain⟨r,s,t,u,l,c,m⟩:=h;have w:0<qs.length:=Ae.2 g;have j:∀i,cf (YA R (JB (Jd (Dq n [a])) qs)) i=cf R i-(if n<=i then a*cf qs (i-n)else 0):=λi=>by rw[Le,Ni]
 have b:∀i,cf (XR Q (Jd (Dq n [a]))) i=if i=n then a else cf Q i:=λi=>by
  rw[Q8,Nh];split
  . rename_i e;rw[e,c n O,Rat.zero_add]
  . exact F3 _
 have v:=Tt q g hl f d;refine⟨Xy _ _,Il _ _,O,XN (Il _ _) λi p=>?_,λx=>?_,λi p=>?_,o.next k R Q n a m c hl f d j b⟩
 . rw[b,BB O,J3 O]
 . rw[Xl,Xp,Jk,Tr,l x];grind
 . rw[b,BB O];exact c i O
theorem Ih.done{la:Nat}{R Q:List Rat}{k:Nat}(h:Ih S la ps qs R Q k)(b:Jd qs=qs)(a:qs≠[])(hl:R.length<qs.length):Q=Jz ps qs/\R=JE ps qs:=by
 obtain⟨g,i,_,_,j,_⟩:=h;obtain⟨c,d,e,f⟩:=Yh ps qs b a;exact Q6 b a i e g f hl d (λx=>by rw[<-j x,<-c x])
theorem Px(S:Nat->List Rat->List Rat->Prop)(A:Nat)(va vb:L)(ps qs:List Rat)(w:I)(ha:RowK false w va ps)(hb:RowK false w vb qs)(an:DivS A ps.length S qs)(am:S 0 ps [])(hq:∀i,Db A (cf qs i))(aw:Jd ps=ps)(ax:Jd qs=qs)(af:qs≠[])(ed:ps.length<=1000):
 Calls Tryz.prog 110 #[va,vb] w λe g=>∃u v,e=.returned (.tuple #[u,v])/\RowK false g u (Jz ps qs)/\RowK false g v (JE ps qs)/\Bl w g:=by
 have fj:Tryz.prog.follows .mixedOrders=true:=by kernel_rfl
 obtain⟨a,la,ca,rfl⟩:=ha.form;obtain⟨b,lb,cb,rfl⟩:=hb.form;obtain⟨dx,dm,dt,dz,_⟩:=ha.formsF;obtain⟨ct,dp,du,de,s',t',ah,ai,bg,aj,bf,ak,cj⟩:=hb.formsF;have Un:0<qs.length:=Ae.2 af;have Qi:=Y (LD _ ps w ha);rw[aw]at Qi;obtain⟨HB,Ul,HQ,Qf,Qh,Qn,Ql,Ub⟩:=GX cj hb hq ax af ct an (Js ax af);have Qx:=Y (show Da qs from Da.of λi=>Sq.of (hq i) (by
  obtain⟨_,_,z,h1,_⟩:=an.size 0 ps [] (Az _) am;omega))
 have Qd:=Y (Ih.start (qs:=qs) aw am);obtain⟨lp,dh⟩:=ex (ps.length);rw[dh]at Qd Ql;have fa:1<=lb:=O
 have fb:lb<=1099511627776:=de;have fc:lp<=1000:=O
 clear ha hb am an hq aw ax af dx ct dm dt dp du dz de cj Un ed dh;go_enter Tryz.func110,Tryz.ntmps110
 go_wp2_with(go_at_call 44;refine Qi.o.mono ?_;clear Qi;rintro e w0 ⟨u0,rfl,ae,bu⟩;obtain⟨a0,l0,c0,rfl⟩:=ae.form)
 go_loopw [6,7,8] (λqv rv _ wr=>∃(k lr:Nat) (Q R:List Rat),(∃ra rc,rv=C ra lr rc)/\(∃qa ql qc,qv=C qa ql qc)/\lr<=1000/\Hid (lr=R.length)/\Hid (MC w wr qv rv Q R)/\Hid (Ih S lp ps qs R Q k)) λ_ rv _ _=>lenOf rv
 case atStart=>exact⟨0,_,[],ps,⟨_,_,rfl⟩,⟨_,_,_,rfl⟩,by obtain⟨_,_,e,_⟩:=id ae;cases e;have:=Qd.o.2.2.1;omega,Y (by obtain⟨_,_,e,_⟩:=id ae;cases e;rfl),Y ⟨RowK.nil _ _,ae,bu⟩,Qd⟩
 case round=>
  clear ae bu Qd;obtain⟨k,lr,Q,R,⟨ra,rc,rfl⟩,⟨qa,ql,qc,rfl⟩,fe,y,o,T⟩:=hrel;by_cases f6:lb<=lr
  . have Qj:(lb:Int)<=(lr:Int):=O
    obtain⟨n,hn⟩:=ex (lr-lb:Nat);obtain⟨m,hm⟩:=ex (lr-1:Nat);obtain⟨c,dw⟩:=ex (lb-1:Nat);have fk:(lr:Int)-(lb:Int)=(n:Int):=O
    have fg:(lr:Int)-1=(m:Int):=O
    have f7:(lb:Int)-1=(c:Int):=O
    have fl:IntKind.i64.wrap (n:Int)=(n:Int):=by rw[BL];omega
    have fh:IntKind.i64.wrap (m:Int)=(m:Int):=by rw[BL];omega
    have f8:IntKind.i64.wrap (c:Int)=(c:Int):=by rw[BL];omega
    have fi:(m:Int)<(lr:Int):=O
    have f9:(c:Int)<(lb:Int):=O
    have r:=Y (show n=R.length-qs.length/\m=R.length-1/\c=qs.length-1/\qs.length<=R.length by have:=y.o;have:=Qn.o;omega);have Qe:=Y (show n<1099511627775/\n+1<=1001 by omega);obtain⟨ei,eo,et,ew,s,t,aa,bb,ll,cc,kk,dd,ck⟩:=o.o.2.1.formsF;clear ei eo et ew;obtain⟨cn,d,rfl,ad,bh,bi,bj,bk⟩:=ck m O;obtain⟨co,f,rfl,q,bl,bm,bn,bt⟩:=HB.o c O;have W:=Y (show ∀V,Bl wr V->(V.cell? ⟨d,m*4,none⟩=some (C (aa m) (ll m) (cc m))/\V.cell? ⟨d,m*4+1,none⟩=some (E (s m))/\V.cell? ⟨d,m*4+2,none⟩=some (C (bb m) (kk m) (dd m))/\V.cell? ⟨d,m*4+3,none⟩=some (E (t m)))/\Jl V (N #[C (aa m) (ll m) (cc m),E (s m),C (bb m) (kk m) (dd m),E (t m)]) (cf R m)from λV l=>by
     exact⟨⟨(l.cell (p:=⟨d,_,none⟩) ad).trans bh,(l.cell (p:=⟨d,_,none⟩) ad).trans bi,(l.cell (p:=⟨d,_,none⟩) ad).trans bj,(l.cell (p:=⟨d,_,none⟩) ad).trans bk⟩,cn.below l⟩)
    have X:=Y (show ∀V,Bl w V->(V.cell? ⟨f,c*4,none⟩=some (C (ah c) (bg c) (aj c))/\V.cell? ⟨f,c*4+1,none⟩=some (E (s' c))/\V.cell? ⟨f,c*4+2,none⟩=some (C (ai c) (bf c) (ak c))/\V.cell? ⟨f,c*4+3,none⟩=some (E (t' c)))/\Jl V (N #[C (ah c) (bg c) (aj c),E (s' c),C (ai c) (bf c) (ak c),E (t' c)]) (cf qs c)from λV l=>by
     exact⟨⟨(l.cell (p:=⟨f,_,none⟩) q).trans bl,(l.cell (p:=⟨f,_,none⟩) q).trans bm,(l.cell (p:=⟨f,_,none⟩) q).trans bn,(l.cell (p:=⟨f,_,none⟩) q).trans bt⟩,co.below l⟩)
    obtain⟨sR,sQ,z,hz,dk⟩:=Ql.o.size k R Q (by have:=T.o.2.2.1;omega) T.o.2.2.2.2.2.2;obtain⟨x,hx⟩:=ex (cf R m/cf qs c);have Qs:=Y (show x=cf R (R.length-1)/cf qs (qs.length-1)by rw[<-hx,<-r.o.2.1,<-r.o.2.2.1]);have Qy:=Y (show cf qs c≠0 by rw[r.o.2.2.1];exact Ub.o);have Qg:Db (z+A) x:=by rw[<-hx];exact(dk m).div2 (HQ.o c) Qy.o
    obtain⟨Uf,Qq,Qp,Ui,Um,Uk,Qu⟩:=Ky (show Sq x from Sq.of Qg O) (show ∀j,Sq (x*cf qs j)from λj=>Sq.of (Qg.mul2 (HQ.o j)) O) sR sQ hx (T.o.next Ql.o Qf.o Qh.o r.o.2.2.2 r.o.1 Qs.o) (Tt Qf.o Qh.o r.o.2.2.2 r.o.1 Qs.o);have Qo:=Y (show Da (Jd (Dq n [x]))from Da.of λi=>by
     rw[Nh];split
     . exact Uf.o
     . exact Sq.of (Db.zero 1 O) O)
    have Qz:=Y (show Da (JB (Jd (Dq n [x])) qs)from Da.of λi=>by
     rw[Ni];split
     . exact Qq.o _
     . exact Sq.of (Db.zero 1 O) O)
    have Uc:=Y (show M3.IL (Jd (Dq n [x])) qs from iK (n:=n) (λi hi=>by rw[Nh,BB hi]) λj=>by rw[Nh,BC rfl];exact Qq.o j);have Qv:=Y (iJ n x);have Ua:=Y (show(JB (Jd (Dq n [x])) qs).length<1099511627776 by
     have h1:(JB (Jd (Dq n [x])) qs).length<=R.length:=XN (YJ _ _) (λi hi=>by
      rw[Ni];split
      . rw[J3 (p:=qs) (by have:=r.o;omega),F7]
      . rfl)
     have:=y.o;omega)
    have Qw:=Y (show Q.length<1099511627776/\R.length<1099511627776 by have:=T.o.2.2.2.1;have:=y.o;omega);clear cn ad bh bi bj bk co q bl bm bn bt ck hz dk sR sQ hx Qg hn hm dw;go_wp2_with fail
    have hq:Bl wr wr.drew:=(BA _ wr).drew;obtain⟨⟨D,K,M,P⟩,_⟩:=W.o _ hq;obtain⟨⟨f0,f1,f2,f3⟩,_⟩:=X.o _ (Bt o.o.2.2 hq);have Qk:=Y λ(V:I) (h:Bl wr V)=>PV _ _ (cf R m) (cf qs c) V (W.o V h).2 (X.o V (Bt o.o.2.2 h)).2 (Qp.o.at m) (Qx.o.at c) Qy.o;rw[Um.o]at Qk;have Qr:=Y λ(V:I) (v:L) (hv:Jl V v x)=>L2 v n x V hv Qe.o.1;go_region_held3 (λg=>(g.cell? ⟨d,m*4,none⟩=some (C (aa m) (ll m) (cc m))/\g.cell? ⟨d,m*4+1,none⟩=some (E (s m))/\g.cell? ⟨d,m*4+2,none⟩=some (C (bb m) (kk m) (dd m))/\g.cell? ⟨d,m*4+3,none⟩=some (E (t m)))/\g.cell? ⟨f,c*4,none⟩=some (C (ah c) (bg c) (aj c))/\g.cell? ⟨f,c*4+1,none⟩=some (E (s' c))/\g.cell? ⟨f,c*4+2,none⟩=some (C (ai c) (bf c) (ak c))/\g.cell? ⟨f,c*4+3,none⟩=some (E (t' c))) (first|(with_reducible exact⟨⟨D,K,M,P⟩,f0,f1,f2,f3⟩)|(go_keep;done))
     (first
      |(go_at_call 158;refine(Qk.o _ hq).mono ?_;clear Qk;rintro e w5 ⟨v5,rfl,dj,ce⟩;replace hq:=Bt hq ce;clear ce D K M P f0 f1 f2 f3;obtain⟨⟨D,K,M,P⟩,_⟩:=W.o _ hq;obtain⟨⟨f0,f1,f2,f3⟩,_⟩:=X.o _ (Bt o.o.2.2 hq))
      |(go_at_call 150;refine(Qr.o _ _ dj).mono ?_;clear Qr dj;rintro e w6 ⟨v6,rfl,bc,ci⟩;replace hq:=Bt hq ci;clear ci D K M P f0 f1 f2 f3;obtain⟨⟨D,K,M,P⟩,_⟩:=W.o _ hq;obtain⟨⟨f0,f1,f2,f3⟩,_⟩:=X.o _ (Bt o.o.2.2 hq);obtain⟨a9,l9,c9,rfl⟩:=bc.form))
    have HM:=Y bc;have HV:=Y (o.o.below hq);clear bc hq D K M P f0 f1 f2 f3 W X;obtain⟨H1,H2,H3⟩:=Df (PX _ _ Q (Jd (Dq n [x])) w6 HV.o.1 HM.o Ui.o Qo.o ⟨Qw.o.1,by have:=Qv.o;have:=Qe.o;omega⟩) (λ(U:I) (h:Bl w6 U)=>Td _ _ (Jd (Dq n [x])) qs U (HM.o.below h) (Ul.o.below (Bt HV.o.2.2 h)) Qo.o Qx.o Uc.o (by have:=Qv.o;have:=Qe.o;have:=Qn.o;omega)) λ(U:I) (h:Bl w6 U) (v:L) (hv:RowK false U v (JB (Jd (Dq n [x])) qs))=>TL _ v R _ U (HV.o.2.1.below h) hv Qp.o Qz.o ⟨Qw.o.2,Ua.o⟩;go_wp2_with(first
     |(go_at_call 101;refine H1.o.mono ?_;clear H1;rintro e w1 ⟨u1,rfl,ay,aq⟩;obtain⟨a1,l1,c1,rfl⟩:=ay.form;have Uh:=Y ay;clear ay)
     |(go_at_call 10;refine(H2.o _ aq).mono ?_;clear H2;rintro e w2 ⟨u2,rfl,di,q⟩;have Qm:=Bt aq q;have Ug:=Y (Uh.o.below q);clear q)
     |(go_at_call 100;refine(H3.o _ Qm _ di).mono ?_;clear H3;rintro e w3 ⟨u3,rfl,az,ap⟩;obtain⟨a3,c3,rfl,_⟩:=id az;have Uj:=Y az;have Ud:=Y (Bt Qm ap);have Ue:=Y (Ug.o.below ap);clear di az ap aq Qm))
    go_roundw
    case rel=>exact⟨k+1,_,_,_,⟨_,_,rfl⟩,⟨_,_,_,rfl⟩,by have:=Qu.o;have:=y.o;omega,Y rfl,Y ⟨Ue.o,Uj.o,Bt HV.o.2.2 Ud.o⟩,Uk⟩
    case measure=>
     show(YA R _).length<lr;have:=Qu.o;have:=y.o;omega
  . have Qj:¬(lb:Int)<=(lr:Int):=O
    have Qt:=Y (T.o.done Qf.o Qh.o (by have:=y.o;have:=Qn.o;omega));go_wp2_with fail
    exact A0 (v:=.tuple #[C qa ql qc,C ra lr rc]) (by simp[results,Tryz.results110,go_sem]) rfl ⟨_,_,rfl,by rw[<-Qt.o.1];exact o.o.1,by rw[<-Qt.o.2];exact o.o.2.1,o.o.2.2⟩
end
section
open Go.RowKit Go.Shelf
section
variable {D E l:Int} {K A:Nat} {ps qs:List Rat}
structure Dvn(D E l:Int)(K A:Nat)(ps qs:List Rat):Prop where
 hD:D≠0
 sD:Sm K D
 hp:EC D K ps
 hE:E≠0
 sE:Sm A E
 hq:EC E A qs
 hl:l≠0
 sl:Sm A l
 lead:cf qs (qs.length-1)=Rat.divInt l E
variable{m:Nat}
theorem Dvn.lne(h:Dvn D E l K A ps qs):cf qs (qs.length-1)≠0:=by
 rw[h.lead];intro e;have hE:(E:Rat)≠0:=by exact_mod_cast h.hE
 have a:(l:Rat)/(E:Rat)*(E:Rat)=l:=Ar hE;rw[<-Fa,e,Cz]at a;exact h.hl (by exact_mod_cast a.symm)
theorem Dvn.sq(h:Dvn D E l K A ps qs)(i:Nat):Db A (cf qs i):=(h.hq i).smq h.hE h.sE
theorem Dvn.den(h:Dvn D E l K A ps qs)(k:Nat):D*l^k≠0/\Sm (K+k*(A+1)+1) (D*l^k):=by
 refine⟨Cn h.hD (Int.pow_ne_zero h.hl),(h.sD.mul (h.sl.powZ k)).mono ?_⟩;rw[AB];omega
theorem Dvn.at(h:Dvn D E l K A ps qs)(k:Nat):(∀i,Db (K+k*(A+1)+1) (cf (JJ ps qs (qs.length-1) m k).2 i))/\∀i,Db (K+k*(A+1)+1) (cf (JJ ps qs (qs.length-1) m k).1 i):=by
 have b:=Tx (m:=m) h.hD h.hp h.hE h.sE h.hq h.hl h.sl h.lead h.lne k;have a:=h.den k;exact⟨λi=>((b.1 i).mono O).smq a.1 a.2,λi=>((b.2 i).mono O).smq a.1 a.2⟩
theorem Dvn.sizes(h:Dvn D E l K A ps qs)(c:2*(K+m*(A+1)+1)+2*(2*A+1)<=1000000):∀k,k<=m->∃z,z+(2*A+1)<=1000000/\(k<m->2*z+2*(2*A+1)<=1000000)/\(∀i,Db z (cf (JJ ps qs (qs.length-1) m k).2 i))/\∀i,Db (z+A) (cf (JJ ps qs (qs.length-1) m k).1 i):=by
 intro k a;have b:k*(A+1)<=m*(A+1):=Ah _ a;exact⟨K+k*(A+1)+1,O,λ_=>by omega,(h.at k).1,λi=>((h.at k).2 i).mono O⟩
theorem Dvn.rem(h:Dvn D E l K A ps qs)(b:ps.length-(qs.length-1)=m):EC (D*l^m) (K+m*(A+1)) (JE ps qs)/\EC (D*l^m) (K+m*(A+1)) (Jz ps qs):=by
 have a:=Tx (m:=m) h.hD h.hp h.hE h.sE h.hq h.hl h.sl h.lead h.lne m;refine⟨λi=>?_,λi=>?_⟩
 . unfold JE;rw[J1,b];exact a.1 i
 . unfold Jz;rw[J1,b];exact a.2 i
theorem Dvn.divS(h:Dvn D E l K A ps qs)(la:Nat)(P:K+la*(A+1)+1+(2*A+1)<=1000000):DivS A la (λk R Q=>EC (D*l^k) (K+k*(A+1)) R/\EC (D*l^k) (K+k*(A+1)) Q) qs:=by
 refine⟨?_,?_⟩
 . rintro k R Q n a ⟨b,d⟩ _ _ _ u w v;have q:D*l^k≠0:=(h.den k).1;have e:D*l^(k+1)=D*l^k*l:=by rw[Int.pow_succ,CT]
   rw[e];have p:D*l^k*l≠0:=Cn q h.hl;obtain⟨r,t,g⟩:=b (R.length-1);have f:a=Rat.divInt (r*E) (D*l^k*l):=by
    rw[u];have s:cf R (R.length-1)=Rat.divInt (r*E) (D*l^k*l)*cf qs (qs.length-1):=by
     rw[h.lead,Fb,t,show r*E*l=r*(E*l)from CT _ _ _,show D*l^k*l*E=D*l^k*(E*l)by rw[CT (D*l^k),CY l E],Fg (Cn h.hE h.hl)]
    rw[s,Rat.mul_div_cancel h.lne]
   have m:CD (D*l^k*l) (K+(k+1)*(A+1)) a:=⟨r*E,f,(g.mul h.sE).mono (by rw[AC];omega)⟩;have o:∀j,CD (D*l^k*l) (K+k*(A+1)+A) (a*cf qs j):=λj=>by
    obtain⟨x,ex,z⟩:=h.hq j;refine⟨r*x,?_,g.mul z⟩;rw[f,ex,Fb,show r*E*x=r*x*E by rw[CT,CY E x,CT],Fg h.hE]
   refine⟨λi=>?_,λi=>?_⟩
   . rw[w];split
     . rw[FP];exact(((b i).wide h.sl h.hl).add (Tw (o _)) p).mono (by rw[AC];omega)
     . rw[FP,Rat.neg_zero,F3];exact((b i).wide h.sl h.hl).mono (by rw[AC];omega)
   . rw[v];split
     . exact m
     . exact((d i).wide h.sl h.hl).mono (by rw[AC];omega)
 . rintro k R Q y ⟨b,d⟩;have M:k*(A+1)<=la*(A+1):=Ah _ y;have c:=h.den k;exact⟨Da.of λi=>Sq.of (((b i).mono O).smq c.1 c.2) O,Da.of λi=>Sq.of (((d i).mono O).smq c.1 c.2) O,K+k*(A+1)+1,O,λi=>((b i).mono O).smq c.1 c.2⟩
theorem Dvn.start(h:Dvn D E l K A ps qs):EC (D*l^0) (K+0*(A+1)) ps/\EC (D*l^0) (K+0*(A+1)) []:=by
 rw[Int.pow_zero,Int.mul_one];exact⟨λi=>(h.hp i).mono O,λi=>by rw[YY];exact CD.zero _ _⟩
end
def Eh(A:Nat)(p:List Rat):Prop:=∀i,∃z:Int,Sm A z/\cf p i=(z:Rat)
variable{p:List Rat}{A:Nat}
theorem Eh.cdl(h:Eh A p):EC 1 A p:=λi=>by
 obtain⟨z,a,b⟩:=h i;exact Nq DO a (by rw[b];grind)
theorem Eh.mono{A B:Nat}{p:List Rat}(h:Eh A p)(c:A<=B):Eh B p:=λi=>by
 obtain⟨z,a,b⟩:=h i;exact⟨z,a.mono c,b⟩
theorem Eh.ln{A:Nat}{p:List Rat}(h:Eh A p):Ln A p:=h.cdl.ln DO
theorem Eh.smq{A:Nat}{p:List Rat}(h:Eh A p)(a:1<=A)(i:Nat):Db A (cf p i):=(h.cdl i).smq DO (Sm.one A a)
theorem jL(hp:Jd p=p)(d:p≠[])(h:Ln A p):∃E:Int,E≠0/\Sm A E/\EC E A (Jy p):=by
 obtain⟨c,k,b⟩:=h;have hl:=Js hp d;obtain⟨E,f,a⟩:=b (p.length-1);have hE:E≠0:=λe=>by
  rw[e]at a;exact Hm hl k a
 refine⟨E,hE,f,λi=>?_⟩;obtain⟨z,g,j⟩:=b i;refine Nq hE g ?_;unfold Jy;rw[Y4,<-j,<-a];grind
end
section
variable{p q:List Rat}{c:Rat}
theorem Nr(c:Rat):Y7 c=c\/Y7 c=-c:=by
 unfold Y7;split
 . exact Or.inr rfl
 . exact Or.inl rfl
theorem Py(h:c≠0):Y7 c≠0:=by
 rcases Nr c with e|e
 . rw[e];exact h
 . rw[e];intro a;exact h (by rw[<-Rat.neg_neg c,a];rfl)
theorem jM(h:c≠0):∀n:Nat,c^n≠0:=by
 intro n;induction n with
 |zero=>rw[Rat.pow_zero];decide
 |succ n a=>rw[Rat.pow_succ];exact Hm a h
def Ee(p q:List Rat):Rat:=Y7 (cf q (q.length-1))^(p.length+1-q.length)
def Xk(p q:List Rat):List Rat:=DU (Ee p q) p
def Xo(p q:List Rat):List Rat:=YA [] (JK (JE (Xk p q) q))
theorem jN:JK []=[]:=rfl
theorem YI(p:List Rat):Jd (JK p)=JK p:=JM _ _
theorem Hn(hp:Jd p=p):∃c:Rat,0<c/\JK p=DU c p:=by
 by_cases a:p=[]
 . subst a;exact⟨1,DO,rfl⟩
 . exact⟨_,jK hp a,rfl⟩
theorem LO(hp:Jd p=p){K:Nat}(h:Ln K p):Eh K (JK p):=by
 by_cases a:p=[]
 . subst a;exact λi=>⟨0,Sm.zero K,by rw[jN,YY];rfl⟩
 . exact UH hp a h
theorem Pz(hq:Jd q=q)(a:q≠[]):Ee p q≠0:=jM (Py (Js hq a)) _
theorem Kg(p q:List Rat):Jd (Xo p q)=Xo p q:=Xy _ _
theorem P0(hq:Jd q=q)(b:q≠[]):∃c:Rat,c≠0/\Xo p q=DU c (JE p q)/\Xo p q=DU (-1) (JK (JE (Xk p q) q)):=by
 have a:Xo p q=DU (-1) (JK (JE (Xk p q) q)):=GA (Kg _ _) (JM _ _) λx=>by
  unfold Xo;rw[Xp,JW];simp[ev];grind
 have f:=(L8 (c:=Ee p q) (d:=1) DO p q hq b).2;rw[Ie hq]at f;obtain⟨c,g,j⟩:=Hn (Y5 (Xk p q) q);have i:c≠0:=λe=>by rw[e]at g;exact absurd g DO
 refine⟨Ee p q*c*-1,Hm (Hm (Pz hq b) i) DO,?_,a⟩;rw[a,j];unfold Xk;rw[f,Kf,Kf,Rat.mul_assoc]
theorem UI(hq:Jd q=q)(a:q≠[]){A:Nat}(h:Ln A (JE p q)):Eh A (JK (JE (Xk p q) q))/\Eh A (Xo p q):=by
 have b:=(L8 (c:=Ee p q) (d:=1) DO p q hq a).2;rw[Ie hq]at b;have f:Eh A (JK (JE (Xk p q) q)):=LO (Y5 _ _) (by unfold Xk;rw[b];exact h.sc (Pz hq a));refine⟨f,λi=>?_⟩;obtain⟨z,g,j⟩:=f i;obtain⟨_,_,_,e⟩:=P0 (p:=p) hq a;exact⟨-z,g.neg,by rw[e,Y4,j,Rat.intCast_neg];grind⟩
structure Chn(p q:List Rat)(A:Nat)(a b:List Rat):Prop where
 ta:Jd a=a
 tb:Jd b=b
 wa:Eh A a
 wb:Eh A b
 gc:JQ a b=JQ p q
 la:a.length<=max p.length q.length
 lb:b.length<=q.length
 nx:b≠[]->Ln A (JE a b)
 eu:Eu (JK p) (JK q) a b
def DW(K:Nat)(p q:List Rat):Nat:=(K+1)*(p.length+q.length+1)
theorem IP(K:Nat)(p q:List Rat):K+1<=DW K p q:=by
 unfold DW
 have:(K+1)*1<=(K+1)*(p.length+q.length+1):=Ap _ O
 omega
theorem P1(K:Nat)(p q:List Rat):(K+1)*(p.length+q.length)<=DW K p q:=Ap _ O
theorem Yc(hp:Jd p=p):(JK p).length=p.length:=by
 obtain⟨c,a,e⟩:=Hn hp;rw[e];exact YC (λb=>by rw[b]at a;exact absurd a DO) hp
theorem UJ(hp:Jd p=p)(hq:Jd q=q):JQ (JK p) (JK q)=JQ p q:=by
 obtain⟨c,b,e⟩:=Hn hp;obtain⟨d,f,g⟩:=Hn hq;rw[e,g];exact MA (λa=>by rw[a]at b;exact absurd b DO) (λa=>by rw[a]at f;exact absurd f DO) hp hq
section
variable {K:Nat} {p q a b:List Rat}
theorem Chn.ln_rem(hp:Jd p=p)(hq:Jd q=q)(d:Ln K p)(e:Ln K q)(hl:p.length+q.length<=1000000)(h:Eu (JK p) (JK q) a b)(f:b≠[]):Ln (DW K p q) (JE a b):=by
 have c:=Pr (YI p) (YI q) (LO hp d).ln (LO hq e).ln (by rw[Yc hp,Yc hq];exact hl) h f;rw[Yc hp,Yc hq]at c;exact c.mono (P1 _ _ _)
theorem Chn.start(hp:Jd p=p)(hq:Jd q=q)(a:Ln K p)(b:Ln K q)(hl:p.length+q.length<=1000000):Chn p q (DW K p q) (JK p) (JK q) where
 ta:=YI p
 tb:=YI q
 wa:=(LO hp a).mono (by have:=IP K p q;omega)
 wb:=(LO hq b).mono (by have:=IP K p q;omega)
 gc:=UJ hp hq
 la:=by rw[Yc hp];exact Nat.le_max_left _ _
 lb:=by rw[Yc hq];exact Aa _
 nx:=Chn.ln_rem hp hq a b hl (.base _ _)
 eu:=.base _ _
theorem Chn.next(hp:Jd p=p)(hq:Jd q=q)(i:Ln K p)(j:Ln K q)(hl:p.length+q.length<=1000000)(h:Chn p q (DW K p q) a b)(d:b≠[]):Chn p q (DW K p q) b (Xo a b):=by
 obtain⟨c,g,e,_⟩:=P0 (p:=a) h.tb d;have f:Eu (JK p) (JK q) b (Xo a b):=by rw[e];exact h.eu.tail d g
 have l:(Xo a b).length<b.length:=by
  rw[e,YC g (Y5 _ _)];exact(Yh a b h.tb d).2.1
 have k:=h.lb;exact⟨h.tb,Kg _ _,h.wb,(UI h.tb d (h.nx d)).2,by rw[<-f.gcd (YI p) (YI q)];exact UJ hp hq,O,O,Chn.ln_rem hp hq i j hl f,f⟩
end
variable{p:List Rat}{A:Nat}
theorem XO{a b:List Rat}(f:Jd b=b)(d:b≠[]):(Xo a b).length<b.length:=by
 obtain⟨c,g,e,_⟩:=P0 (p:=a) f d;rw[e,YC g (Y5 _ _)];exact(Yh a b f d).2.1
structure Rhn(p q:List Rat)(A:Nat)(a b:List Rat):Prop where
 ta:Jd a=a
 tb:Jd b=b
 ca:∃D:Int,D≠0/\Sm A D/\EC D A a
 cb:∃E:Int,E≠0/\Sm A E/\EC E A b
 mb:b≠[]->cf b (b.length-1)=1
 ma:Jy a=a
 gc:JQ a b=JQ p q
 la:a.length<=max p.length q.length
 lb:b.length<=q.length
 nx:b≠[]->Ln A (JE a b)
 eu:Eu (Jy p) (Jy q) a b
theorem P2(a:1<=A):∃D:Int,D≠0/\Sm A D/\EC D A []:=⟨1,DO,Sm.one A a,λi=>by rw[YY];exact CD.zero _ _⟩
theorem LP(hp:Jd p=p)(h:Ln A p)(b:1<=A):∃E:Int,E≠0/\Sm A E/\EC E A (Jy p):=by
 by_cases a:p=[]
 . subst a;exact P2 b
 . exact jL hp a h
theorem UK{K:Nat}(hp:Jd p=p)(h:Ln K p):Ln K (Jy p):=by
 by_cases a:p=[]
 . subst a;exact h
 . exact h.sc (IA (Js hp a))
theorem UL(hp:Jd p=p)(h:Jy p≠[]):cf (Jy p) ((Jy p).length-1)=1:=Np hp (λe=>h (by rw[e];rfl))
section
variable {K:Nat} {p q a b:List Rat}
theorem Rhn.ln_rem(hp:Jd p=p)(hq:Jd q=q)(d:Ln K p)(e:Ln K q)(hl:p.length+q.length<=1000000)(h:Eu (Jy p) (Jy q) a b)(f:b≠[]):Ln (DW K p q) (JE a b):=by
 have c:=Pr (YD p) (YD q) (UK hp d) (UK hq e) (by rw[Xf hp,Xf hq];exact hl) h f;rw[Xf hp,Xf hq]at c;exact c.mono (P1 _ _ _)
theorem Rhn.start(hp:Jd p=p)(hq:Jd q=q)(a:Ln K p)(b:Ln K q)(hl:p.length+q.length<=1000000):Rhn p q (DW K p q) (Jy p) (Jy q) where
 ta:=YD p
 tb:=YD q
 ca:=LP hp (a.mono (by have:=IP K p q;omega)) (by have:=IP K p q;omega)
 cb:=LP hq (b.mono (by have:=IP K p q;omega)) (by have:=IP K p q;omega)
 mb:=UL hq
 ma:=I1 hp
 gc:=UB p q hp hq
 la:=by rw[Xf hp];exact Nat.le_max_left _ _
 lb:=by rw[Xf hq];exact Aa _
 nx:=Rhn.ln_rem hp hq a b hl (.base _ _)
 eu:=.base _ _
theorem Rhn.next(hp:Jd p=p)(hq:Jd q=q)(i:Ln K p)(j:Ln K q)(hl:p.length+q.length<=1000000)(h:Rhn p q (DW K p q) a b)(d:b≠[]):Rhn p q (DW K p q) b (Jy (JE a b)):=by
 have e:=Y5 a b;have f:Eu (Jy p) (Jy q) b (Jy (JE a b)):=by
  by_cases g:JE a b=[]
  . have:=h.eu.tail (c:=1) d DO;rw[g]at this ⊢;exact this
  . exact h.eu.tail d (IA (Js e g))
 have l:(Jy (JE a b)).length<b.length:=by
  rw[Xf e];exact(Yh a b h.tb d).2.1
 have k:=h.lb;refine⟨h.tb,YD _,h.cb,LP e (h.nx d) (by have:=IP K p q;omega),UL e,?_,by rw[<-f.gcd (YD p) (YD q)];exact UB p q hp hq,O,O,Rhn.ln_rem hp hq i j hl f,f⟩;unfold Jy;rw[h.mb d,show(1:Rat)/1=1 by grind];exact Ie h.tb
end
end
section
open Go.RowKit Go.Shelf
theorem UM(q:Rat):GD q 0<0↔q<0:=by
 rw[Rat.lt_iff];unfold GD XT;split<;>(try split)<;>omega
theorem jO(a b:Nat):(a:Int)*((b:Int)/((Int.gcd a b:Nat):Int))=((Nat.lcm a b:Nat):Int):=by
 show(a:Int)*((b:Int)/((Nat.gcd a b:Nat):Int))=_;rw[<-FD,<-Fo];congr 1;rw[Nat.lcm,Nat.mul_div_assoc _ (C8 a b)]
theorem Ns(ps:List Rat)(i:Nat):(if((i:Nat):Int)<0 then(0:Rat)else cf ps ((i:Nat):Int).toNat)=cf ps i:=by
 rw[BB O,CI]
theorem UO(A:Nat)(b c:L)(ps qs:List Rat)(w:I)(g:Jh w b ps)(j:Jh w c qs)(l:Da ps)(hq:∀i,Db A (cf qs i))(m:Jd ps=ps)(n:Jd qs=qs)(a:qs≠[])
(f:∀k,k<=ps.length-(qs.length-1)->∃z,z+(2*A+1)<=1000000/\(k<ps.length-(qs.length-1)->2*z+2*(2*A+1)<=1000000)/\(∀i,Db z (cf (JJ ps qs (qs.length-1) (ps.length-(qs.length-1)) k).2 i))/\∀i,Db (z+A) (cf (JJ ps qs (qs.length-1) (ps.length-(qs.length-1)) k).1 i)):
 Calls Tryz.prog 139 #[b,c] w λe d=>∃u v,e=.returned (.tuple #[u,v,E true])/\Jh d u (Jz ps qs)/\Jh d v (JE ps qs)/\Bl w d:=by
 have h:=M3.iQ A b c ps qs w g j l hq m n λ_=>f;rw[BJ a,BB a,BB a]at h;exact h
end
namespace M3
open Go.RowKit Go.Shelf
variable{S:List Rat}{c i l n:Nat}{a:Option Addr}{v:L}{V:I}
theorem jP(n:Nat)(h:n<=2199023255552)(w:I):(Instr.makeSlice 22 (B .i64 (n:Int)) (B .i64 (n:Int))).run Tryz.prog w=.ok (C (some ⟨w.heap.size,0,none⟩) n n) (w.alloc (H (Yy n) 37)):=by
 obtain⟨i,d,b⟩:=Option.map_eq_some_iff.1 Tryz.infoRat;simp only[Prod.mk.injEq]at b;obtain⟨f,e,c⟩:=b;have a:=run_make (P:=Tryz.prog) w 22 37 i _ Tryz.underlying22 d f .i64 .i64 n n O (Int.le_refl _) (by rw[c];omega) O;simp only[CI,e]at a;exact a
theorem Nt(V:I):Has V (N #[C Option.none 0 0]) (.poly []):=⟨_,rfl,row_zero V Option.none⟩
theorem UP(V:I):Jh V (N #[C Option.none 0 0]) []:=⟨_,rfl,row_zero V Option.none⟩
theorem Mem.poly2{w:I}{bs:List (Option (Nat × Dat))}(M:Mem w V bs){B:Nat}{ps:List Rat}(h:bs[i]?=some (some (B,.poly ps))):∃a l c,Boxed V B 25 (C a l c)/\Jh V (N #[C a l c]) ps:=by
 obtain⟨a,l,c,b,d⟩:=M.poly h;exact⟨a,l,c,b,_,rfl,d⟩
theorem Nu{W:I}{B:Nat}(b:Boxed W B 25 (C a l c)){x:L}{qs:List Rat}(h:Jh W v qs):Jh (W.setCell ⟨B,0,Option.none⟩ x) v qs:=by
 obtain⟨u,e,h⟩:=h;exact⟨u,e,Gu b x h⟩
theorem Has.set1{d:Dat}(h:Has V v d){B:Nat}(q:Boxed V B 25 (C a l c))(e:JC (C a l c)=true)(b:L):Has (V.setCell ⟨B,0,Option.none⟩ b) v d:=
 h.keep (Sd q e b) (Or.inr λ_ _ g=>Gu q b g)
theorem Tup2.set1{V:I}{v:L}{d1 d:Dat}(h:Tup2 V v d1 d){B:Nat}{a:Option Addr}{l c:Nat}(q:Boxed V B 25 (C a l c))(f:JC (C a l c)=true)(b:L):Tup2 (V.setCell ⟨B,0,Option.none⟩ b) v d1 d:=by
 obtain⟨u1,u2,e,g,i⟩:=h;exact⟨u1,u2,e,g.set1 q f b,i.set1 q f b⟩
theorem jQ(va:L)(q:Rat)(w:I)(R:Jj w va q)(ai:Sq q):
 Calls Tryz.prog 206 #[va] w λe w'=>∃u,e=.returned u/\Jj w' u (Y7 q)/\Bl w w':=by
 obtain⟨am,X,ak,ae,an,ad,aj,af,rfl⟩:=Jj.form R;have g:=(((Mem.nil w).push (.rat q) R).push (.rat 0) (EQ _));simp only[Ax]at g;have g:Mem w ((w.alloc (H #[E am,C X ak ae,E an,C ad aj af] 37)).alloc (H #[E false,C none 0 0,E false,C none 0 0] 37)) [some (w.heap.size,.rat q),some (w.heap.size+1,.rat 0)]:=g;obtain⟨W0,Q⟩:=ex ((w.alloc (H #[E am,C X ak ae,E an,C ad aj af] 37)).alloc (H #[E false,C none 0 0,E false,C none 0 0] 37));have W:=Y Q;rw[Q]at g;have j:Hid (Mem w W0 [some (w.heap.size,.rat q),some (w.heap.size+1,.rat 0)]):=Y g;have U:=Y ai;clear g Q R ai;go_enter Tryz.func206,Tryz.ntmps206
 go_upto_region 1 with fail
 rw[W.o];clear W;obtain⟨s1,a1,l1,c1,t1,b1,k1,d1,z,r1,i1,j1⟩:=j.o.rat (i:=0) rfl;obtain⟨t,k,o,s⟩:=z.cq;obtain⟨s2,a2,l2,c2,t2,b2,k2,d2,a,r2,i2,j2⟩:=j.o.rat (i:=1) rfl;obtain⟨b,c,f,d⟩:=a.cq;obtain⟨m,l,r,p⟩:=a.fq;obtain⟨x,A,HR⟩:=Df (NC _ _ q 0 W0 r1 (EQ _) U.o KX) (λ(V:I) (h:Bl W0 V)=>ND _ _ 0 q V (EQ _) (r1.below h) KX U.o) r1;obtain⟨n,S⟩:=ex (GD q 0);rw[S]at x;have T:=Y S;clear S r1 i1 j1;by_cases ah:n<0
 . have D:=Y (show 0-q=Y7 q by
    have P:=(UM q).1 (by rw[T.o];exact ah);unfold Y7;rw[BC P];grind)
   rw[D.o]at A;go_wp2_with(first
    |(go_at_call 27;refine x.o.mono ?_;clear x;rintro e w1 ⟨rfl,hq⟩;clear t k o s;obtain⟨t,k,o,s⟩:=(z.below hq).cq;clear b c f d;obtain⟨b,c,f,d⟩:=(a.below hq).cq;clear m l r p;obtain⟨m,l,r,p⟩:=(a.below hq).fq)
    |(go_at_call 26;refine(A.o _ hq).mono ?_;clear A;rintro e w2 ⟨u2,rfl,y,ay⟩;obtain⟨bf,ap,bc,aw,bg,aq,az,ax,rfl⟩:=Jj.form y;have hq:=Bt hq ay;clear t k o s;obtain⟨t,k,o,s⟩:=(z.below hq).cq;clear b c f d;obtain⟨b,c,f,d⟩:=(a.below hq).cq;clear m l r p;obtain⟨m,l,r,p⟩:=(a.below hq).fq))
   have M:=Bt j.o.2.2 hq;have K:=j.o.ge 1 rfl;exact A0 (v:=N #[E bf,C ap bc aw,E bg,C aq az ax]) (by simp[results,Tryz.results206,go_sem,b,c,f,d]) rfl ⟨_,rfl,y.put4 (a.below hq) rfl rfl rfl rfl _ _ _ _,Jo M K _ _ _ _⟩
 . have D:=Y (show Y7 q=q by
    have P:¬q<0:=λh=>ah (by rw[<-T.o];exact(UM q).2 h);unfold Y7;rw[BB P])
   go_wp2_with(go_at_call 27;refine x.o.mono ?_;clear x;rintro e w1 ⟨rfl,hq⟩;clear t k o s;obtain⟨t,k,o,s⟩:=(z.below hq).cq;clear b c f d;obtain⟨b,c,f,d⟩:=(a.below hq).cq;clear m l r p;obtain⟨m,l,r,p⟩:=(a.below hq).fq)
   have y:=HR.o.below hq;rw[<-D.o]at y;have M:=Bt j.o.2.2 hq;have K:=j.o.ge 1 rfl;exact A0 (v:=N #[E s1,C a1 l1 c1,E t1,C b1 k1 d1]) (by simp[results,Tryz.results206,go_sem,b,c,f,d]) rfl ⟨_,rfl,y.put4 (a.below hq) rfl rfl rfl rfl _ _ _ _,Jo M K _ _ _ _⟩
theorem jR(va vb:L)(x y:Nat)(w:I)(ha:Jm w va (x:Int))(hb:Jm w vb (y:Int))(hx:0<x)(az:DY (x:Int))(bc:DY (y:Int)):
 Calls Tryz.prog 180 #[va,vb] w λe w'=>∃u,e=.returned u/\Jm w' u ((Nat.lcm x y:Nat):Int)/\Bl w w':=by
 have Qj:Tryz.prog.follows .mixedOrders=true:=by kernel_rfl
 have HG:=Y (show((Int.gcd x y:Nat):Int)≠0 by have:=Nat.gcd_pos_of_pos_left y hx;exact Int.natCast_ne_zero.2 (by show Nat.gcd x y≠0;omega));obtain⟨aw,af,ap,aj,rfl⟩:=Jm.form2 ha;obtain⟨ax,ah,aq,ak,rfl⟩:=Jm.form2 hb;have R:=((((Mem.nil w).push (.int ((x:Int))) ha).push (.int ((y:Int))) (Has.alloc (d:=.int ((y:Int))) hb _)).push (.int 0) (EM _));simp only[Ax]at R;have R:Mem w (((w.alloc (H #[E aw,C af ap aj] 35)).alloc (H #[E ax,C ah aq ak] 35)).alloc (H #[E false,C none 0 0] 35)) [some (w.heap.size,.int ((x:Int))),some (w.heap.size+1,.int ((y:Int))),some (w.heap.size+1+1,.int 0)]:=R;obtain⟨W0,am⟩:=ex (((w.alloc (H #[E aw,C af ap aj] 35)).alloc (H #[E ax,C ah aq ak] 35)).alloc (H #[E false,C none 0 0] 35));have Qg:=Y am;rw[am]at R;have M1:Hid (Mem w W0 [some (w.heap.size,.int ((x:Int))),some (w.heap.size+1,.int ((y:Int))),some (w.heap.size+1+1,.int 0)]):=Y R;have Qc:=Y az;have Qa:=Y bc;clear R am ha hb az bc;go_enter Tryz.func180,Tryz.ntmps180
 go_upto_region 1 with fail
 rw[Qg.o];clear Qg;clear hx;refine Jr Qj [[],[],[],[1,2],[0,3,3],[4],[5],[5],[5],[],[],[9,6,4,0,1,2,3,4,5,6,9,10],[10,7,11,0,1,2,3,4,5,6,7,9,10,11],[8,12,0,1,2,3,4,5,6,7,8,9,10,11,12]] (by kernel_rfl) DO
  (λD ai V=>∃(tn ta tb tc td tm te tg ti tj tk tl:L) (U T:Option (Nat × Dat)),ai={ tmps:=#[N #[E aw,C af ap aj],N #[E ax,C ah aq ak],F (some ⟨w.heap.size,0,none⟩),F (some ⟨w.heap.size+1,0,none⟩),F (some ⟨w.heap.size+1+1,0,none⟩),tj,tk,tl,tm,tn,ta,tb,tc,td,te,tg,ti,G,G,G],defers:=[] }/\Hid ((D 0=true->Has V tn (.int ((y:Int))))/\(D 1=true->Has V ta (.int ((x:Int))))/\(D 2=true->Has V tb (.int ((y:Int))))/\(D 3=true->Has V tc (.int (((Int.gcd x y:Nat):Int))))/\(D 4=true->Tup2 V td (.int ((y:Int)/((Int.gcd x y:Nat):Int))) (.int ((y:Int)%((Int.gcd x y:Nat):Int))))/\(D 5=true->Tup2 V tm (.int ((y:Int)/((Int.gcd x y:Nat):Int))) (.int ((y:Int)%((Int.gcd x y:Nat):Int))))/\(D 6=true->Has V te (.int ((y:Int)/((Int.gcd x y:Nat):Int))))/\(D 7=true->Has V tg (.int ((y:Int)%((Int.gcd x y:Nat):Int))))/\(D 8=true->ti=E true)/\((D 9=false->U=none)/\(D 9=true->D 11=false->∃B:Nat,tj=F (some ⟨B,0,none⟩)/\U=some (B,.int 0))/\(D 11=true->∃B:Nat,tj=F (some ⟨B,0,none⟩)/\U=some (B,.int ((y:Int)/((Int.gcd x y:Nat):Int)))))/\((D 10=false->T=none)/\(D 10=true->D 12=false->∃B:Nat,tk=F (some ⟨B,0,none⟩)/\T=some (B,.int 0))/\(D 12=true->∃B:Nat,tk=F (some ⟨B,0,none⟩)/\T=some (B,.int ((y:Int)%((Int.gcd x y:Nat):Int)))))/\(D 13=true->tl=E true))/\Hid (Mem w V [some (w.heap.size,.int ((x:Int))),some (w.heap.size+1,.int ((y:Int))),some (w.heap.size+1+1,.int 0),U,T]))
  ⟨_,_,_,_,_,_,_,_,_,_,_,_,none,none,rfl,Y ⟨Z,Z,Z,Z,Z,Z,Z,Z,Z,Z,Z,Z⟩,Y (((M1.o).none).none).drew⟩ ?step1 ?fin1
 case step1=>
  rintro D ai V i ds ay hi f S ⟨tn,ta,tb,tc,td,tm,te,tg,ti,tj,tk,tl,U,T,rfl,b,g⟩;have bu:i<14:=(Ad.1 hi).1;obtain rfl|rfl|rfl|rfl|rfl|rfl|rfl|rfl|rfl|rfl|rfl|rfl|rfl|rfl:=GL i O
  all_goals
   simp only[Aj,Ag,An]at hi;subst hi
  . clear f;obtain⟨s,a,l,c,n,i⟩:=g.o.int (i:=1) rfl;obtain⟨e0,e1⟩:=n.cp;refine Za ?_;exact⟨_,_,_,_,_,_,_,_,_,_,_,_,_,_,rfl,(Dm b λ_=>i),Y (g.o)⟩
  . clear f;obtain⟨s,a,l,c,n,i⟩:=g.o.int (i:=0) rfl;obtain⟨e0,e1⟩:=n.cp;refine Za ?_;exact⟨_,_,_,_,_,_,_,_,_,_,_,_,_,_,rfl,(Ds b λ_=>i),Y (g.o)⟩
  . clear f;obtain⟨s,a,l,c,n,i⟩:=g.o.int (i:=1) rfl;obtain⟨e0,e1⟩:=n.cp;refine Za ?_;exact⟨_,_,_,_,_,_,_,_,_,_,_,_,_,_,rfl,(Dj b λ_=>i),Y (g.o)⟩
  . have Q:=(b.o.2.1 (f 1 Z));have A:=(b.o.2.2.1 (f 2 Z));have HC:=Y (KW _ _ (x:Int) (y:Int) V Q A (by have:=Qc.o.words;omega) (by have:=Qa.o.words;omega));clear f Q A;refine Jb rfl rfl λK hK=>?_;go_simp;go_wp2_with(go_at_call 84;refine HC.o.mono ?_;rintro e w5 ⟨v5,rfl,an,j⟩)
    obtain⟨k,m,o,_,P,q,r,t,z⟩:=b.o;exact⟨_,_,_,_,_,_,_,_,_,_,_,_,_,_,rfl,Y ⟨λh=>(k h).below j,λh=>(m h).below j,λh=>(o h).below j,λ_=>an,λh=>(P h).below j,λh=>(q h).below j,λh=>(r h).below j,λh=>(t h).below j,z⟩,Y (g.o.below j)⟩
  . have Q:=(b.o.1 (f 0 Z));have A:=(b.o.2.2.2.1 (f 3 Z));have HC:=Y (Sn _ _ (y:Int) ((Int.gcd x y:Nat):Int) V Q A HG.o (by have:=Qa.o.words;omega) (by have:=(Qc.o.gcd Qa.o).words;omega));clear f Q A;refine Jb rfl rfl λK hK=>?_;go_simp;go_wp2_with(go_at_call 135;refine HC.o.mono ?_;rintro e w5 ⟨v5,v6,rfl,an,bi,j⟩)
    obtain⟨k,m,o,M,_,q,r,t,z⟩:=b.o;exact⟨_,_,_,_,_,_,_,_,_,_,_,_,_,_,rfl,Y ⟨λh=>(k h).below j,λh=>(m h).below j,λh=>(o h).below j,λh=>(M h).below j,λ_=>⟨v5,v6,rfl,an,bi⟩,λh=>(q h).below j,λh=>(r h).below j,λh=>(t h).below j,z⟩,Y (g.o.below j)⟩
  . have Q:=(b.o.2.2.2.2.1 (f 4 Z));clear f;refine Za ?_;exact⟨_,_,_,_,_,_,_,_,_,_,_,_,_,_,rfl,(D4 b λ_=>Q),Y (g.o)⟩
  . obtain⟨y1,y2,rfl,A,h2⟩:=((Dp b) (f 5 Z));clear f;refine Za ?_;exact⟨_,_,_,_,_,_,_,_,_,_,_,_,_,_,rfl,(ED b λ_=>A),Y (g.o)⟩
  . obtain⟨y1,y2,rfl,A,h2⟩:=((Dp b) (f 5 Z));clear f;refine Za ?_;exact⟨_,_,_,_,_,_,_,_,_,_,_,_,_,_,rfl,(ET b λ_=>h2),Y (g.o)⟩
  . obtain⟨y1,y2,rfl,A,h2⟩:=((Dp b) (f 5 Z));clear f;refine Za ?_;exact⟨_,_,_,_,_,_,_,_,_,_,_,_,_,_,rfl,(EX b),Y (g.o)⟩
  . have hf:D 11=false:=DP ay S;obtain rfl:=b.o.2.2.2.2.2.2.2.2.2.1.1 S;clear f;refine Za ?_;obtain⟨k,m,o,M,P,q,r,t,z,_,ad⟩:=b.o;exact⟨_,_,_,_,_,_,_,_,_,_,_,_,_,_,rfl,Y ⟨λh=>(k h).alloc _,λh=>(m h).alloc _,λh=>(o h).alloc _,λh=>(M h).alloc _,λh=>(P h).alloc _,λh=>(q h).alloc _,λh=>(r h).alloc _,λh=>(t h).alloc _,z,⟨λh=>by simp at h,λ_ _=>⟨_,rfl,rfl⟩,λh=>by simp[hf]at h⟩,ad⟩,Y (g.o.fill (i:=3) rfl (.int 0) (EM _))⟩
  . have hf:D 12=false:=DP ay S;obtain rfl:=b.o.2.2.2.2.2.2.2.2.2.2.1.1 S;clear f;refine Za ?_;obtain⟨k,m,o,M,P,q,r,t,z,G9,_,ae⟩:=b.o;exact⟨_,_,_,_,_,_,_,_,_,_,_,_,_,_,rfl,Y ⟨λh=>(k h).alloc _,λh=>(m h).alloc _,λh=>(o h).alloc _,λh=>(M h).alloc _,λh=>(P h).alloc _,λh=>(q h).alloc _,λh=>(r h).alloc _,λh=>(t h).alloc _,z,G9,⟨λh=>by simp at h,λ_ _=>⟨_,rfl,rfl⟩,λh=>by simp[hf]at h⟩,ae⟩,Y (g.o.fill (i:=4) rfl (.int 0) (EM _))⟩
  . obtain⟨B,rfl,rfl⟩:=b.o.2.2.2.2.2.2.2.2.2.1.2.1 (f 9 Z) S;have Qb:=f 9 Z;have hv:=((Dw b) (f 6 Z));obtain⟨s1,a1,l1,c1,rfl⟩:=Jm.form2 (show Jm V _ _ from hv);obtain⟨s,a,l,c,n,i⟩:=g.o.int (i:=3) rfl;have e0:=n.c0;have f0:=n.f0;have e1:=n.c1;have f1:=n.f1;clear f;refine Za ?_;obtain⟨k,m,o,M,P,q,r,t,z,_,ad⟩:=b.o;exact⟨_,_,_,_,_,_,_,_,_,_,_,_,_,_,rfl,Y ⟨λh=>(k h).set2 n rfl rfl _ _,λh=>(m h).set2 n rfl rfl _ _,λh=>(o h).set2 n rfl rfl _ _,λh=>(M h).set2 n rfl rfl _ _,λh=>(P h).set2 n rfl rfl _ _,λh=>(q h).set2 n rfl rfl _ _,λh=>(r h).set2 n rfl rfl _ _,λh=>(t h).set2 n rfl rfl _ _,z,⟨λh=>by simp[Qb]at h,λ_ h=>by simp at h,λ_=>⟨B,rfl,rfl⟩⟩,ad⟩,Y (g.o.putInt (i:=3) rfl hv)⟩
  . obtain⟨B,rfl,rfl⟩:=b.o.2.2.2.2.2.2.2.2.2.2.1.2.1 (f 10 Z) S;have Qb:=f 10 Z;have hv:=((EA b) (f 7 Z));obtain⟨s1,a1,l1,c1,rfl⟩:=Jm.form2 (show Jm V _ _ from hv);obtain⟨s,a,l,c,n,i⟩:=g.o.int (i:=4) rfl;have e0:=n.c0;have f0:=n.f0;have e1:=n.c1;have f1:=n.f1;clear f;refine Za ?_;obtain⟨k,m,o,M,P,q,r,t,z,G9,_,ae⟩:=b.o;exact⟨_,_,_,_,_,_,_,_,_,_,_,_,_,_,rfl,Y ⟨λh=>(k h).set2 n rfl rfl _ _,λh=>(m h).set2 n rfl rfl _ _,λh=>(o h).set2 n rfl rfl _ _,λh=>(M h).set2 n rfl rfl _ _,λh=>(P h).set2 n rfl rfl _ _,λh=>(q h).set2 n rfl rfl _ _,λh=>(r h).set2 n rfl rfl _ _,λh=>(t h).set2 n rfl rfl _ _,z,G9,⟨λh=>by simp[Qb]at h,λ_ h=>by simp at h,λ_=>⟨B,rfl,rfl⟩⟩,ae⟩,Y (g.o.putInt (i:=4) rfl hv)⟩
  . obtain rfl:=((D8 b) (f 8 Z));clear f;refine Za ?_;exact⟨_,_,_,_,_,_,_,_,_,_,_,_,_,_,rfl,(KL (EX b)),Y (g.o)⟩
 rintro D ai V2 X ⟨tn,ta,tb,tc,td,tm,te,tg,ti,tj,tk,tl,U,T,rfl,b,g⟩;obtain⟨B3,rfl,rfl⟩:=b.o.2.2.2.2.2.2.2.2.2.1.2.2 (X 11 DO);obtain⟨B4,rfl,rfl⟩:=b.o.2.2.2.2.2.2.2.2.2.2.1.2.2 (X 12 DO);obtain rfl:=D8 b (X 8 DO);obtain rfl:=b.o.2.2.2.2.2.2.2.2.2.2.2 (X 13 DO);clear b X M1;have W:Hid (Mem w V2 [some (w.heap.size,.int ((x:Int))),some (w.heap.size+1,.int ((y:Int))),some (w.heap.size+1+1,.int 0),some (B3,.int ((y:Int)/((Int.gcd x y:Nat):Int))),some (B4,.int ((y:Int)%((Int.gcd x y:Nat):Int)))]):=g;clear g;obtain⟨s5,a5,l5,c5,n5,i5⟩:=W.o.int (i:=0) rfl;obtain⟨bl,bm⟩:=n5.cp;obtain⟨s6,a6,l6,c6,n6,i6⟩:=W.o.int (i:=3) rfl;obtain⟨bn,bt⟩:=n6.cp;obtain⟨s7,a7,l7,c7,n7,i7⟩:=W.o.int (i:=2) rfl;obtain⟨Qe,Qd⟩:=n7.cp;obtain⟨Qi,Qh⟩:=n7.fp;have H1:=Y (XH _ _ (x:Int) ((y:Int)/((Int.gcd x y:Nat):Int)) V2 i5 i6 (by have A:=Qc.o.words;have h2:=(Qa.o.div (y:=((Int.gcd x y:Nat):Int))).words;omega));rw[jO]at H1;go_wp2_with(go_at_call 69;refine H1.o.mono ?_;clear H1;rintro e w2 ⟨u2,rfl,bf,hq⟩;obtain⟨bk,bg,bj,bh,rfl⟩:=Jm.form2 bf;clear Qe Qd;obtain⟨Qe,Qd⟩:=(n7.below hq).cp;clear Qi Qh;obtain⟨Qi,Qh⟩:=(n7.below hq).fp)
 have Qk:=Bt W.o.2.2 hq;have Qf:=W.o.ge 2 rfl;exact A0 (v:=N #[E bk,C bg bj bh]) (by simp[results,Tryz.results180,go_sem,Qe,Qd]) rfl ⟨_,rfl,bf.box (n7.below hq) rfl rfl,(Qk.setCell (p:=⟨_,0,none⟩) Qf _).setCell (p:=⟨_,1,none⟩) Qf _⟩
def LQ(F:Nat->Rat)(n i:Nat)(S:List Rat):Prop:=S.length=n/\∀j,cf S j=if j<i then F j else 0
theorem LQ.next{F:Nat->Rat}(h:LQ F n i S)(b:i<n):LQ F n (i+1) (S.set i (F i)):=by
 refine⟨by rw[CB];exact h.1,λj=>?_⟩;rw[X7 _ _ _ _ (by rw[h.1];exact b),h.2 j];by_cases e:j=i
 . rw[BC e,BC O,e]
 . rw[BB e];by_cases a:j<i
   . rw[BC a,BC O]
   . rw[BB a,BB O]
theorem LQ.done{F:Nat->Rat}{T:List Rat}(h:LQ F n n S)(b:Jd T=T)(hF:∀j,j<n->cf T j=F j)(a:∀j,n<=j->cf T j=0):Jd S=T:=by
 rw[<-b];refine YM λj=>?_;rw[h.2 j];split
 . exact(hF j (by assumption)).symm
 . exact(a j O).symm
theorem UQ(v vf:L)(ps:List Rat)(f:Rat)(w:I)(h:Jh w v ps)(hf:Jj w vf f)(aw:Da ps)(ax:Sq f)(ay:∀i,Sq (cf ps i*f)):
 Calls Tryz.prog 181 #[v,vf] w λe w'=>∃u,e=.returned u/\Jh w' u (DU f ps)/\Bl w w':=by
 have Qq:Tryz.prog.follows .mixedOrders=true:=by kernel_rfl
 obtain⟨x,la,y,rfl⟩:=h.form;obtain⟨s,a,l,c,t,b,k,d,rfl⟩:=Jj.form hf;obtain⟨bf,az,bc,bg,_⟩:=h.row.forms;have M0:=((((Mem.nil w).push (.cell 25 (C x la y)) (cs:=#[C x la y]) ⟨rfl,rfl⟩).push (.rat f) (cs:=#[E s,C a l c,E t,C b k d]) (Has.alloc (d:=.rat f) hf _)).push (.cell 25 (C none 0 0)) (cs:=#[C none 0 0]) ⟨rfl,rfl⟩);simp only[Ax]at M0;obtain⟨V0,af⟩:=ex (((w.alloc (H #[C x la y] 25)).alloc (H #[E s,C a l c,E t,C b k d] 37)).alloc (H #[C none 0 0] 25));have M1:Mem w V0 [some (w.heap.size,.cell 25 (C x la y)),some (w.heap.size+1,.rat f),some (w.heap.size+1+1,.cell 25 (C none 0 0))]:=by rw[<-af];exact M0
 have Qh:=Y M1;obtain⟨n,hn⟩:=ex (ps.length:Nat);obtain⟨R,ap⟩:=ex ((n:Int)-1:Int);have Qg:=Y (Yv (N #[C x la y]) ps V0 (h.below M1.2.2));rw[hn,ap]at Qg;have bh:R+1=(n:Int):=O
 have bi:IntKind.i64.wrap (n:Int)=(n:Int):=by rw[BL];omega
 have Qr:∀W:I,(Instr.makeSlice 22 (B .i64 (n:Int)) (B .i64 (n:Int))).run Tryz.prog W=.ok (C (some ⟨W.heap.size,0,none⟩) n n) (W.alloc (H (Yy n) 37)):=λW=>jP n O W;obtain⟨HP,Ql,Qm,HN⟩:=Dy (λ(V:I) (hB:Bl w V)=>h.below hB) aw ay (show ps.length=n from hn);have Qd:n<=1099511627776:=O
 have Qj:=Y af;have Qo:=Y ax;clear h aw ay bf az bc hn ap M0 M1 af bg hf ax;go_enter Tryz.func181,Tryz.ntmps181
 go_upto_region 1 with fail
 rw[Qj.o];have c0:=(Qh.o.cell (i:=0) rfl).1.cell;go_upto_region 2 with(go_at_call 30;refine Qg.o.mono ?_;clear Qg;rintro e w1 ⟨rfl,an⟩)
 have Qe:Mem w (w1.alloc (H (Yy n) 37)) [some (w.heap.size,.cell 25 (C x la y)),some (w.heap.size+1,.rat f),some (w.heap.size+1+1,.cell 25 (C none 0 0)),some (w1.heap.size,.rats (List.replicate n 0))]:=(Qh.o.below an).push (.rats (List.replicate n 0)) (Nj _ n);obtain⟨V1,ah⟩:=ex (w1.alloc (H (Yy n) 37));obtain⟨A,ai⟩:=ex (w1.heap.size);rw[ah,ai]at Qe;rw[ah,ai];have Qi:=Y Qe;clear Qe ah ai an c0 Qh Qj Qr;go_wp2;go_loopw [13] (λiv wr=>∃(i:Nat) (S:List Rat),i<=n/\iv=B .i64 (i:Int)/\Hid (LQ (λj=>cf ps j*f) n i S)/\Hid (Mem w wr [some (w.heap.size,.cell 25 (C x la y)),some (w.heap.size+1,.rat f),some (w.heap.size+1+1,.cell 25 (C none 0 0)),some (A,.rats S)])) λiv _=>n-(intOf iv).toNat
 case atStart=>exact⟨0,_,Az _,rfl,Y ⟨Ay,λj=>by rw[J0,BB O]⟩,Qi⟩
 case round=>
  obtain⟨i,S,hi,rfl,P,HM⟩:=hrel;clear Qi;by_cases aq:i<n
  . have bk:(i:Int)<(n:Int):=O
    have Qk:=Y (show i<S.length by rw[P.o.1];exact aq);go_wp2_with fail
    have Qn:=HM.o.drew;refine Jr Qq [[],[],[],[],[2,3],[],[4,5,4],[0,1,0,1,2,3,4,5,6],[7,6,6,0,1,2,3,4,5,6]] (by kernel_rfl) DO
     (λD ae V=>∃(ta tb tc td te tg ti tj:L),ae={ tmps:=#[N #[C x la y],N #[E s,C a l c,E t,C b k d],F (some ⟨w.heap.size,0,none⟩),F (some ⟨w.heap.size+1,0,none⟩),F (some ⟨w.heap.size+1+1,0,none⟩),C (some ⟨A,0,none⟩) n n,B .i64 ↑i,N #[C x la y],B .i64 R,B .i64 ↑n,C (some ⟨A,0,none⟩) n n,C (some ⟨A,0,none⟩) n n,B .i64 ↑n,B .i64 ↑i,E true,B .i64 ↑i,ta,tb,tc,td,te,tg,ti,tj,u24,G,G],defers:=[] }/\Hid ((D 0=true->ta=C (some ⟨A,0,none⟩) n n)/\(D 1=true->tb=B .i64 (i:Int))/\(D 2=true->tc=N #[C x la y])/\(D 3=true->td=B .i64 (i:Int))/\(D 4=true->D 8=false->Jj V te (cf ps i))/\(D 5=true->D 8=false->Jj V tg f)/\(D 6=true->D 8=false->Jj V ti (cf ps i*f))/\(D 7=true->tj=F (some ⟨A,i*4,none⟩)))/\Hid ((D 8=false->Mem w V [some (w.heap.size,.cell 25 (C x la y)),some (w.heap.size+1,.rat f),some (w.heap.size+1+1,.cell 25 (C none 0 0)),some (A,.rats S)])/\(D 8=true->Mem w V [some (w.heap.size,.cell 25 (C x la y)),some (w.heap.size+1,.rat f),some (w.heap.size+1+1,.cell 25 (C none 0 0)),some (A,.rats (S.set i (cf ps i*f)))])))
     (E8 ⟨rfl,Y Z,Y ⟨λ_=>Qn,Z⟩⟩) ?step1 ?fin1
    case step1=>
     rintro D ae V i ds ad hi o Q ⟨ta,tb,tc,td,te,tg,ti,tj,rfl,g,m⟩;have bj:i<9:=(Ad.1 hi).1;obtain rfl|rfl|rfl|rfl|rfl|rfl|rfl|rfl|rfl:=QT i O
     all_goals
      simp only[Aj,Ag,An]at hi;subst hi
     . clear o;refine DT ?_;exact⟨(Dm g),m⟩
     . clear o;refine DT ?_;exact⟨(Ds g),m⟩
     . have z:=m.o.1 (DP ad Q);have R:=(z.cell (i:=0) rfl).1.cell;clear o;refine DT ?_;exact⟨(Dj g),m⟩
     . clear o;refine DT ?_;exact⟨(Dn g),m⟩
     . have z:=m.o.1 (DP ad Q);obtain rfl:=g.o.2.2.1 (o 2 Z);obtain rfl:=g.o.2.2.2.1 (o 3 Z);clear o;have X:=Y (K9 _ ps (i:Int) V (HP.o V z.2.2));rw[Ns]at X;refine Jb rfl rfl λK hK=>?_;go_simp;go_wp2_with(go_at_call 74;refine X.o.mono ?_;rintro e w5 ⟨v5,rfl,ak,q⟩)
       obtain⟨G0,G1,_,_,_,G5,G6,G7⟩:=g.o;exact E8 ⟨rfl,Y ⟨G0,G1,λ_=>rfl,λ_=>rfl,λ_ _=>ak,λh M=>(G5 h M).below q,λh M=>(G6 h M).below q,G7⟩,Y ⟨λh=>(m.o.1 h).below q,λh=>(m.o.2 h).below q⟩⟩
     . have z:=m.o.1 (DP ad Q);obtain⟨x1,x2,x3,x4,x5,x6,x7,x8,n,r,_,_⟩:=z.rat (i:=1) rfl;obtain⟨R,e1,e2,e3⟩:=n.cq;clear o;refine DT ?_;exact⟨(D4 g λ_ _=>r),m⟩
     . have Qa:D 8=false:=DP ad Q;have U:=g.o.2.2.2.2.1 (o 4 Z) Qa;have h1:=Dp g (o 5 Z) Qa;clear o;have X:=Y (K6 _ _ (cf ps i) f V U h1 (Ql.o.at i) Qo.o);clear U h1;refine Jb rfl rfl λK hK=>?_;go_simp;go_wp2_with(go_at_call 91;refine X.o.mono ?_;rintro e w5 ⟨v5,rfl,ak,q⟩)
       obtain⟨G0,G1,G2,G3,G4,G5,_,G7⟩:=g.o;exact E8 ⟨rfl,Y ⟨G0,G1,G2,G3,λh M=>(G4 h M).below q,λh M=>(G5 h M).below q,λ_ _=>ak,G7⟩,Y ⟨λh=>(m.o.1 h).below q,λh=>(m.o.2 h).below q⟩⟩
     . obtain rfl:=g.o.1 (o 0 Z);obtain rfl:=g.o.2.1 (o 1 Z);clear o;refine DT ?_;exact⟨(Ri (Ds (Dm g))),m⟩
     . have z:=m.o.1 Q;have U:=Dw g (o 6 Z) Q;obtain rfl:=g.o.2.2.2.2.2.2.2 (o 7 Z);have hE:=z.rats (i:=3) rfl;obtain⟨xa,xb,xc,xd,R,e1,e2,e3,_⟩:=hE.at Qk.o;have f0:=hE.frozen (i*4);have f1:=hE.frozen (i*4+1);have f2:=hE.frozen (i*4+2);have f3:=hE.frozen (i*4+3);obtain⟨s9,a9,l9,c9,t9,b9,k9,d9,rfl⟩:=Jj.form U;clear o;refine DT ?_;exact⟨Y ⟨g.o.1,g.o.2.1,g.o.2.2.1,g.o.2.2.2.1,λ_ h=>by simp at h,λ_ h=>by simp at h,λ_ h=>by simp at h,λ_=>rfl⟩,Y ⟨λh=>by simp at h,λ_=>z.putRats (i:=3) rfl Qk.o U⟩⟩
    case fin1=>
     rintro D ae V am ⟨ta,tb,tc,td,te,tg,ti,tj,rfl,g,m⟩;have HO:=Y (m.o.2 (am 8 DO));clear g m am;go_wp2_with fail
     go_roundw
     case rel=>exact⟨i+1,_,O,by go_num,Y (P.o.next aq),HO⟩
     case measure=>simp[intOf];omega
  . obtain rfl:i=n:=O
    have hE:=HM.o.rats (i:=3) rfl;have Qc:=hE.row (n:=i) (cap:=i) (by rw[P.o.1];exact Aa _) (Aa _) O Qd;rw[Ac (by rw[P.o.1];exact Aa _)]at Qc;have Qf:=Y (dq _ S wr Qc (Da.of λj=>by
     rw[P.o.2 j];split
     . exact Qm.o j
     . exact KX))
    rw[P.o.done (T:=DU f ps) (JM _ _) (λj hj=>Y4 _ _ _) λj hj=>by rw[Y4,J3 (by rw[HN.o];exact hj),Cz]]at Qf;clear hE Qc;go_wp2_with(go_at_call 25;refine Qf.o.mono ?_;clear Qf;rintro e w5 ⟨u5,rfl,aj,_,q⟩;obtain⟨a7,l7,c7,rfl⟩:=aj.form;have n5:=boxed_below (HM.o.cell (i:=2) rfl).1 q;have x0:=n5.cell;have x1:=n5.frozen;have Qs:=Y (Gu n5 (C a7 l7 c7) aj.row);have Qp:=Y ((Bt HM.o.2.2 q).setCell (p:=⟨w.heap.size+1+1,0,none⟩) (by show w.heap.size<=w.heap.size+1+1;omega) (C a7 l7 c7));clear aj q n5)
    exact A0 (v:=N #[C a7 l7 c7]) (by simp[results,Tryz.results181,go_sem,x0]) rfl ⟨_,rfl,⟨_,rfl,Qs.o⟩,Qp.o⟩
theorem jS(p:List Rat)(n:Nat):((Int.gcd ((Xj p n:Nat):Int) (cf p n).num:Nat):Int)=((Xj p (n+1):Nat):Int):=rfl
theorem jT(p:List Rat)(n:Nat):((Nat.lcm (Xt p n) (cf p n).den:Nat):Int)=((Xt p (n+1):Nat):Int):=rfl
theorem P3(D:Int)(M:Nat)(v:L)(ps:List Rat)(w:I)(h:Jh w v ps)(ak:Jd ps=ps)(hD:D≠0)(af:Sm M D)(aj:EC D M ps)(hM:M<=1000000):
 Calls Tryz.prog 137 #[v] w λe w'=>∃u,e=.returned u/\Jh w' u (JK ps)/\Bl w w':=by
 have Qe:Tryz.prog.follows .mixedOrders=true:=by kernel_rfl
 obtain⟨m,la,o,rfl⟩:=h.form;obtain⟨bh,bf,bg,bi,_⟩:=h.row.forms;have Qa:∀i,Db M (cf ps i):=λi=>(aj i).smq hD af;obtain⟨HG,HL,Qb⟩:=Df (λi=>DY.of (UG (λj=>(Qa j).1) i) O:∀i,DY ((Xj ps i:Nat):Int)) (λi=>DY.of (UF hD af aj i) O:∀i,DY ((Xt ps i:Nat):Int)) (show Da ps from Da.of λi=>Sq.of (Qa i) hM);have HF:=Y (show ps≠[]->Sq ((Xt ps ps.length:Rat)/(Xj ps ps.length:Rat))/\∀i,Sq (cf ps i*((Xt ps ps.length:Rat)/(Xj ps ps.length:Rat)))from λk=>by
  have h1:=UH ak k (aj.ln hD);refine⟨?_,λi=>?_⟩
  . have h2:((Xt ps ps.length:Rat)/(Xj ps ps.length:Rat))=Rat.divInt ((Xt ps ps.length:Nat):Int) ((Xj ps ps.length:Nat):Int):=by rw[Fa,AY,AY]
    rw[h2];exact Sq.of (Db.divInt (Int.natCast_ne_zero.2 (MB ak k)) (UF hD af aj _) (UG (λj=>(Qa j).1) _)) hM
  . obtain⟨z,h3,h4⟩:=h1 i;have h5:cf ps i*((Xt ps ps.length:Rat)/(Xj ps ps.length:Rat))=(z:Rat):=by rw[<-h4];unfold JK;rw[Y4]
    rw[h5];have h6:1<=M:=by
     by_cases h7:1<=M
     . exact h7
     . exfalso
       obtain rfl:M=0:=O
       unfold Sm at af
       have:D.natAbs≠0:=Int.natAbs_ne_zero.2 hD
       simp at af;omega
    exact Sq.of ((Nq (D:=1) DO h3 (by rw[show((1:Int):Rat)=1 from rfl,Rat.mul_one])).smq DO (Sm.one M h6)) hM)
 have Qm:=Y (λk=>MB ak k:ps≠[]->Xj ps ps.length≠0);have M0:=(((Mem.nil w).push (.cell 25 (C m la o)) (cs:=#[C m la o]) ⟨rfl,rfl⟩).push (.cell 25 (C none 0 0)) (cs:=#[C none 0 0]) ⟨rfl,rfl⟩).push (.int 0) (cs:=#[E false,C none 0 0]) (EM _);simp only[Ax]at M0;obtain⟨W0,an⟩:=ex (((w.alloc (H #[C m la o] 25)).alloc (H #[C none 0 0] 25)).alloc (H #[E false,C none 0 0] 35));have Qd:=Y an;have M1:Hid (Mem w W0 [some (w.heap.size,.cell 25 (C m la o)),some (w.heap.size+1,.cell 25 (C none 0 0)),some (w.heap.size+1+1,.int (((Xj ps 0:Nat):Int)))]):=Y (by rw[<-an];exact M0);obtain⟨n,hn⟩:=ex (ps.length:Nat);obtain⟨U,bc⟩:=ex ((n:Int)-1:Int);have Qc:=Y λ(V:I) (hB:Bl w V)=>Yv (N #[C m la o]) ps V (h.below hB);rw[hn,bc]at Qc;have bn:U+1=(n:Int):=O
 have bt:IntKind.i64.wrap (n:Int)=(n:Int):=by rw[BL];omega
 have HP:=Y λ(V:I) (hB:Bl w V)=>h.below hB;have HN:=Y (show ps.length=n from hn);have ci:n<=1099511627776:=O
 have Qf:=Y λ(V:I)=>K0 1 O O V;clear h bh bf bg hn bc M0 an bi ak hD af aj hM Qa;go_enter Tryz.func137,Tryz.ntmps137
 go_upto_region 2 with fail
 rw[Qd.o];clear Qd;go_upto_region 3 with(go_at_call 29;refine(Qf.o _).mono ?_;clear Qf;rintro e w1 ⟨u1,rfl,aw,ay⟩;obtain⟨s1,a1,l1,c1,rfl⟩:=Jm.form2 aw)
 obtain⟨V1,hV⟩:=ex (w1.alloc (H #[E s1,C a1 l1 c1] 35));obtain⟨t,ae⟩:=ex (w1.heap.size);have d:Mem w (w1.alloc (H #[E s1,C a1 l1 c1] 35)) [some (w.heap.size,.cell 25 (C m la o)),some (w.heap.size+1,.cell 25 (C none 0 0)),some (w.heap.size+1+1,.int (((Xj ps 0:Nat):Int))),some (w1.heap.size,.int (((Xt ps 0:Nat):Int)))]:=Mem.push (M1.o.below ay) (.int (((Xt ps 0:Nat):Int))) aw;rw[hV,ae]at d;rw[hV];rw[ae];have M2:Hid (Mem w V1 [some (w.heap.size,.cell 25 (C m la o)),some (w.heap.size+1,.cell 25 (C none 0 0)),some (w.heap.size+1+1,.int (((Xj ps 0:Nat):Int))),some (t,.int (((Xt ps 0:Nat):Int)))]):=Y (d);clear M1;clear d hV ae;clear aw ay;have c0:=(M2.o.cell (i:=0) rfl).1.cell;go_upto_region 4 with(go_at_call 30;refine(Qc.o _ M2.o.2.2).mono ?_;clear Qc;rintro e w2 ⟨rfl,az⟩)
 have ML:Hid (Mem w w2 [some (w.heap.size,.cell 25 (C m la o)),some (w.heap.size+1,.cell 25 (C none 0 0)),some (w.heap.size+1+1,.int (((Xj ps 0:Nat):Int))),some (t,.int (((Xt ps 0:Nat):Int)))]):=Y (M2.o.below az);clear c0 az M2;go_loopw [12] (λiv wr=>∃i:Nat,i<=n/\iv=B .i64 (i:Int)/\Hid (Mem w wr [some (w.heap.size,.cell 25 (C m la o)),some (w.heap.size+1,.cell 25 (C none 0 0)),some (w.heap.size+1+1,.int (((Xj ps i:Nat):Int))),some (t,.int (((Xt ps i:Nat):Int)))])) λiv _=>n-(intOf iv).toNat
 case atStart=>exact⟨0,Az _,rfl,ML⟩
 case round=>
  obtain⟨i,X,rfl,M3⟩:=hrel;clear ML;by_cases bu:i<n
  . have ce:(i:Int)<(n:Int):=O
    go_upto_region 6 with fail
    refine Jr Qe [[],[],[],[1,2],[3,3],[0,4,4],[5,5,0,1,2,3,4,5]] (by kernel_rfl) DO
     (λD ad V=>∃(ta tb tc td te tg:L) (y2:Option (Nat × Dat)),ad={ tmps:=#[N #[C m la o],F (some ⟨w.heap.size,0,none⟩),F (some ⟨w.heap.size+1,0,none⟩),F (some ⟨w.heap.size+1+1,0,none⟩),F (some ⟨t,0,none⟩),B .i64 ↑i,G,G,N #[E s1,C a1 l1 c1],N #[C m la o],B .i64 U,B .i64 ↑n,B .i64 ↑i,E true,B .i64 ↑i,ta,tb,tc,td,te,tg,u21,u22,u23,u24,u25,u26,u27,G,G,G,G,G,G,G,G,G,G,G,G],defers:=[] }/\Hid ((D 0=true->Has V ta (.int (((Xj ps i:Nat):Int))))/\(D 1=true->tb=N #[C m la o])/\(D 2=true->tc=Value.int IntKind.i64 ↑i)/\(D 3=true->Has V td (.rat (cf ps i)))/\(D 4=true->Has V te (.int ((cf ps i).num)))/\(D 5=true->Has V tg (.int (((Xj ps (i+1):Nat):Int))))/\((D 6=false->y2=some (w.heap.size+1+1,.int (((Xj ps i:Nat):Int))))/\(D 6=true->y2=some (w.heap.size+1+1,.int (((Xj ps (i+1):Nat):Int))))))/\Hid (Mem w V [some (w.heap.size,.cell 25 (C m la o)),some (w.heap.size+1,.cell 25 (C none 0 0)),y2,some (t,.int (((Xt ps i:Nat):Int)))]))
     ⟨_,_,_,_,_,_,_,rfl,Y ⟨Z,Z,Z,Z,Z,Z,⟨λ_=>rfl,Z⟩⟩,Y (M3.o).drew⟩ ?step2 ?fin2
    case step2=>
     rintro D ad V i ds ap X g ah ⟨ta,tb,tc,td,te,tg,y2,rfl,b,d⟩;have Qj:i<7:=(Ad.1 X).1;obtain rfl|rfl|rfl|rfl|rfl|rfl|rfl:=Jx i O
     all_goals
      simp only[Aj,Ag,An]at X;subst X
     . have hf:D 6=false:=DP ap ah;obtain rfl:=Dw b hf;clear g;obtain⟨s,a,l,c,n,i⟩:=d.o.int (i:=2) rfl;obtain⟨U,e1⟩:=n.cp;refine Za ?_;exact⟨_,_,_,_,_,_,_,rfl,(Lp (Dm b λ_=>i) ⟨λ_=>rfl,λh=>by simp[hf]at h⟩),Y (d.o)⟩
     . have U:=(d.o.cell (i:=0) rfl).1.cell;clear g;refine Za ?_;exact⟨_,_,_,_,_,_,_,rfl,(Ds b),Y (d.o)⟩
     . clear g;refine Za ?_;exact⟨_,_,_,_,_,_,_,rfl,(Dj b),Y (d.o)⟩
     . obtain rfl:=(b.o.2.1 (g 1 Z));obtain rfl:=(b.o.2.2.1 (g 2 Z));have r:=Y (K9 _ ps (i:Int) V (HP.o V d.o.2.2));rw[Ns]at r;clear g;refine Jb rfl rfl λK hK=>?_;go_simp;go_wp2_with(go_at_call 74;refine r.o.mono ?_;rintro e w5 ⟨v5,rfl,T,f⟩)
       obtain⟨q,_,_,_,Q,R,S⟩:=b.o;exact⟨_,_,_,_,_,_,_,rfl,Y ⟨λh=>(q h).below f,λ_=>rfl,λ_=>rfl,λ_=>T,λh=>(Q h).below f,λh=>(R h).below f,S⟩,Y (d.o.below f)⟩
     . have k:=(b.o.2.2.2.1 (g 3 Z));have r:=Y (iA _ (cf ps i) V k);clear g k;refine Jb rfl rfl λK hK=>?_;go_simp;go_wp2_with(go_at_call 179;refine r.o.mono ?_;rintro e w5 ⟨v5,rfl,T,f⟩)
       obtain⟨q,y,A,P,_,R,S⟩:=b.o;exact⟨_,_,_,_,_,_,_,rfl,Y ⟨λh=>(q h).below f,y,A,λh=>(P h).below f,λ_=>T,λh=>(R h).below f,S⟩,Y (d.o.below f)⟩
     . have k:=(b.o.1 (g 0 Z));have h1:=(b.o.2.2.2.2.1 (g 4 Z));have r:=Y (KW _ _ ((Xj ps i:Nat):Int) (cf ps i).num V k h1 (by have:=(HG.o i).words;omega) (by have:=(Qb.o.at i).num.words;omega));rw[jS]at r;clear g k h1;refine Jb rfl rfl λK hK=>?_;go_simp;go_wp2_with(go_at_call 84;refine r.o.mono ?_;rintro e w5 ⟨v5,rfl,T,f⟩)
       obtain⟨q,y,A,P,Q,_,S⟩:=b.o;exact⟨_,_,_,_,_,_,_,rfl,Y ⟨λh=>(q h).below f,y,A,λh=>(P h).below f,λh=>(Q h).below f,λ_=>T,S⟩,Y (d.o.below f)⟩
     . obtain rfl:=Dw b ah;have hv:=((Dp b) (g 5 Z));obtain⟨s1,a1,l1,c1,rfl⟩:=Jm.form2 (show Jm V _ _ from hv);obtain⟨s,a,l,c,n,i⟩:=d.o.int (i:=2) rfl;have U:=n.c0;have f0:=n.f0;have e1:=n.c1;have f1:=n.f1;clear g;refine Za ?_;obtain⟨q,y,A,P,Q,R,_⟩:=b.o;exact⟨_,_,_,_,_,_,_,rfl,Y ⟨λh=>(q h).set2 n rfl rfl _ _,y,A,λh=>(P h).set2 n rfl rfl _ _,λh=>(Q h).set2 n rfl rfl _ _,λh=>(R h).set2 n rfl rfl _ _,⟨λh=>by simp at h,λ_=>rfl⟩⟩,Y (d.o.putInt (i:=2) rfl hv)⟩
    rintro D ad V3 W ⟨ta,tb,tc,td,te,tg,y2,rfl,b,d⟩;obtain rfl:=b.o.2.2.2.2.2.2.2 (W 6 DO);obtain rfl:=b.o.2.1 (W 1 DO);obtain rfl:=b.o.2.2.1 (W 2 DO);clear b W M3;have M4:Hid (Mem w V3 [some (w.heap.size,.cell 25 (C m la o)),some (w.heap.size+1,.cell 25 (C none 0 0)),some (w.heap.size+1+1,.int (((Xj ps (i+1):Nat):Int))),some (t,.int (((Xt ps i:Nat):Int)))]):=d;clear d;go_upto_region 7 with fail
    refine Jr Qe [[],[],[],[1,2],[3,3],[0,4,4],[5,5,0,1,2,3,4,5]] (by kernel_rfl) DO
     (λD ad V=>∃(ti tj tk tl tm tn:L) (y3:Option (Nat × Dat)),ad={ tmps:=#[N #[C m la o],F (some ⟨w.heap.size,0,none⟩),F (some ⟨w.heap.size+1,0,none⟩),F (some ⟨w.heap.size+1+1,0,none⟩),F (some ⟨t,0,none⟩),B .i64 ↑i,G,G,N #[E s1,C a1 l1 c1],N #[C m la o],B .i64 U,B .i64 ↑n,B .i64 ↑i,E true,B .i64 ↑i,ta,N #[C m la o],B .i64 ↑i,td,te,tg,ti,tj,tk,tl,tm,tn,u27,G,G,G,G,G,G,G,G,G,G,G,G],defers:=[] }/\Hid ((D 0=true->Has V ti (.int (((Xt ps i:Nat):Int))))/\(D 1=true->tj=N #[C m la o])/\(D 2=true->tk=Value.int IntKind.i64 ↑i)/\(D 3=true->Has V tl (.rat (cf ps i)))/\(D 4=true->Has V tm (.int (((cf ps i).den:Int))))/\(D 5=true->Has V tn (.int (((Xt ps (i+1):Nat):Int))))/\((D 6=false->y3=some (t,.int (((Xt ps i:Nat):Int))))/\(D 6=true->y3=some (t,.int (((Xt ps (i+1):Nat):Int))))))/\Hid (Mem w V [some (w.heap.size,.cell 25 (C m la o)),some (w.heap.size+1,.cell 25 (C none 0 0)),some (w.heap.size+1+1,.int (((Xj ps (i+1):Nat):Int))),y3]))
     ⟨_,_,_,_,_,_,_,rfl,Y ⟨Z,Z,Z,Z,Z,Z,⟨λ_=>rfl,Z⟩⟩,Y (M4.o).drew⟩ ?step4 ?fin4
    case step4=>
     rintro D ad V i ds ap X g ah ⟨ti,tj,tk,tl,tm,tn,y3,rfl,b,d⟩;have Qj:i<7:=(Ad.1 X).1;obtain rfl|rfl|rfl|rfl|rfl|rfl|rfl:=Jx i O
     all_goals
      simp only[Aj,Ag,An]at X;subst X
     . have hf:D 6=false:=DP ap ah;obtain rfl:=Dw b hf;clear g;obtain⟨s,a,l,c,n,i⟩:=d.o.int (i:=3) rfl;obtain⟨U,e1⟩:=n.cp;refine Za ?_;exact⟨_,_,_,_,_,_,_,rfl,(Lp (Dm b λ_=>i) ⟨λ_=>rfl,λh=>by simp[hf]at h⟩),Y (d.o)⟩
     . have U:=(d.o.cell (i:=0) rfl).1.cell;clear g;refine Za ?_;exact⟨_,_,_,_,_,_,_,rfl,(Ds b),Y (d.o)⟩
     . clear g;refine Za ?_;exact⟨_,_,_,_,_,_,_,rfl,(Dj b),Y (d.o)⟩
     . obtain rfl:=(b.o.2.1 (g 1 Z));obtain rfl:=(b.o.2.2.1 (g 2 Z));have r:=Y (K9 _ ps (i:Int) V (HP.o V d.o.2.2));rw[Ns]at r;clear g;refine Jb rfl rfl λK hK=>?_;go_simp;go_wp2_with(go_at_call 74;refine r.o.mono ?_;rintro e w5 ⟨v5,rfl,T,f⟩)
       obtain⟨q,_,_,_,Q,R,S⟩:=b.o;exact⟨_,_,_,_,_,_,_,rfl,Y ⟨λh=>(q h).below f,λ_=>rfl,λ_=>rfl,λ_=>T,λh=>(Q h).below f,λh=>(R h).below f,S⟩,Y (d.o.below f)⟩
     . have k:=(b.o.2.2.2.1 (g 3 Z));have r:=Y (Ga _ (cf ps i) V k);clear g k;refine Jb rfl rfl λK hK=>?_;go_simp;go_wp2_with(go_at_call 70;refine r.o.mono ?_;rintro e w5 ⟨v5,rfl,T,f⟩)
       obtain⟨q,y,A,P,_,R,S⟩:=b.o;exact⟨_,_,_,_,_,_,_,rfl,Y ⟨λh=>(q h).below f,y,A,λh=>(P h).below f,λ_=>T,λh=>(R h).below f,S⟩,Y (d.o.below f)⟩
     . have k:=(b.o.1 (g 0 Z));have h1:=(b.o.2.2.2.2.1 (g 4 Z));have r:=Y (jR _ _ (Xt ps i) (cf ps i).den V k h1 (UC ps i) (HL.o i) (Qb.o.at i).den);rw[jT]at r;clear g k h1;refine Jb rfl rfl λK hK=>?_;go_simp;go_wp2_with(go_at_call 180;refine r.o.mono ?_;rintro e w5 ⟨v5,rfl,T,f⟩)
       obtain⟨q,y,A,P,Q,_,S⟩:=b.o;exact⟨_,_,_,_,_,_,_,rfl,Y ⟨λh=>(q h).below f,y,A,λh=>(P h).below f,λh=>(Q h).below f,λ_=>T,S⟩,Y (d.o.below f)⟩
     . obtain rfl:=Dw b ah;have hv:=((Dp b) (g 5 Z));obtain⟨s1,a1,l1,c1,rfl⟩:=Jm.form2 (show Jm V _ _ from hv);obtain⟨s,a,l,c,n,i⟩:=d.o.int (i:=3) rfl;have U:=n.c0;have f0:=n.f0;have e1:=n.c1;have f1:=n.f1;clear g;refine Za ?_;obtain⟨q,y,A,P,Q,R,_⟩:=b.o;exact⟨_,_,_,_,_,_,_,rfl,Y ⟨λh=>(q h).set2 n rfl rfl _ _,y,A,λh=>(P h).set2 n rfl rfl _ _,λh=>(Q h).set2 n rfl rfl _ _,λh=>(R h).set2 n rfl rfl _ _,⟨λh=>by simp at h,λ_=>rfl⟩⟩,Y (d.o.putInt (i:=3) rfl hv)⟩
    rintro D ad V5 W ⟨ti,tj,tk,tl,tm,tn,y3,rfl,b,d⟩;obtain rfl:=b.o.2.2.2.2.2.2.2 (W 6 DO);obtain rfl:=b.o.2.1 (W 1 DO);obtain rfl:=b.o.2.2.1 (W 2 DO);clear b W M4;have M5:Hid (Mem w V5 [some (w.heap.size,.cell 25 (C m la o)),some (w.heap.size+1,.cell 25 (C none 0 0)),some (w.heap.size+1+1,.int (((Xj ps (i+1):Nat):Int))),some (t,.int (((Xt ps (i+1):Nat):Int)))]):=d;clear d;go_wp2_with fail
    go_roundw
    case rel=>exact⟨i+1,O,by go_num,M5⟩
    case measure=>simp[intOf];omega
  . obtain rfl:i=n:=O
    obtain⟨s6,a6,l6,c6,n6,i6⟩:=M3.o.int (i:=2) rfl;obtain⟨Ql,Qo⟩:=n6.cp;obtain⟨s7,a7,l7,c7,n7,i7⟩:=M3.o.int (i:=3) rfl;obtain⟨Qh,Qp⟩:=n7.cp;have H1:=Y (NB _ _ ((Xt ps i:Nat):Int) ((Xj ps i:Nat):Int) wr i7 i6 (HL.o i) (HG.o i));have Qg:=(M3.o.cell (i:=1) rfl).1;obtain⟨r9,aq⟩:=ex (Rat.divInt ((Xt ps i:Nat):Int) ((Xj ps i:Nat):Int));rw[aq]at H1;have Qi:=Y aq;clear aq;by_cases k:ps=[]
    . have HB:=Y (show decide (((Xj ps i:Nat):Int)≠0)=false by rw[<-HN.o,k];decide);rw[HB.o]at H1;have HE:=Y (show JK ps=[]by rw[k];rfl);clear k HB;go_wp2_with(go_at_call 28;refine H1.o.mono ?_;clear H1;rintro e w4 ⟨u4,rfl,am,ai⟩;obtain⟨s9,a9,l9,c9,t9,b9,k9,d9,rfl⟩:=Jj.form am;have n5:=boxed_below (boxed_below Qg ai) (Ba w4 (H #[E s9,C a9 l9 c9,E t9,C b9 k9 d9] 37));have x0:=n5.cell;have x1:=n5.frozen)
      rw[HE.o];exact A0 (v:=N #[C none 0 0]) (by simp[results,Tryz.results137,go_sem,x0]) rfl ⟨_,rfl,UP _,((Bt M3.o.2.2 ai).alloc (by have:=M3.o.2.2.size;have:=ai.size;omega) _).setCell (p:=⟨w.heap.size+1,0,none⟩) (by show w.heap.size<=w.heap.size+1;omega) _⟩
    . have HB:=Y (show decide (((Xj ps i:Nat):Int)≠0)=true by
       refine BJ ?_;rw[<-HN.o];exact Int.natCast_ne_zero.2 (Qm.o k))
      rw[HB.o]at H1;have HE:=Y (show r9=(Xt ps ps.length:Rat)/(Xj ps ps.length:Rat)by rw[<-Qi.o,Fa,AY,AY,HN.o]);have HT:=Y (show DU r9 ps=JK ps by rw[HE.o];rfl);have HS:=Y (show Sq r9/\∀j,Sq (cf ps j*r9)by rw[HE.o];exact HF.o k);clear k HB;have H2:=Y λ(V:I) (hB:Bl w V) (x:L) (hx:Jj V x r9)=>UQ (N #[C m la o]) x ps r9 V (HP.o V hB) hx Qb.o HS.o.1 HS.o.2;rw[HT.o]at H2;go_upto_region 12 with(go_at_call 28;refine H1.o.mono ?_;clear H1;rintro e w4 ⟨u4,rfl,am,ai⟩;obtain⟨s9,a9,l9,c9,t9,b9,k9,d9,rfl⟩:=Jj.form am)
      clear Ql Qo Qh Qp;obtain⟨V8,hV⟩:=ex (w4.alloc (H #[E s9,C a9 l9 c9,E t9,C b9 k9 d9] 37));obtain⟨B8,ae⟩:=ex (w4.heap.size);have d:Mem w (w4.alloc (H #[E s9,C a9 l9 c9,E t9,C b9 k9 d9] 37)) [some (w.heap.size,.cell 25 (C m la o)),some (w.heap.size+1,.cell 25 (C none 0 0)),some (w.heap.size+1+1,.int (((Xj ps i:Nat):Int))),some (t,.int (((Xt ps i:Nat):Int))),some (w4.heap.size,.rat r9)]:=Mem.push (M3.o.below ai) (.rat r9) am;rw[hV,ae]at d;rw[hV];rw[ae];have M4:Hid (Mem w V8 [some (w.heap.size,.cell 25 (C m la o)),some (w.heap.size+1,.cell 25 (C none 0 0)),some (w.heap.size+1+1,.int (((Xj ps i:Nat):Int))),some (t,.int (((Xt ps i:Nat):Int))),some (B8,.rat r9)]):=Y (d);clear M3;clear d hV ae;obtain⟨s9,a9,l9,c9,t9,b9,k9,d9,n9,r9,i9,j9⟩:=M4.o.rat (i:=4) rfl;obtain⟨bj,bk,bl,bm⟩:=n9.cq;have c0:=(M4.o.cell (i:=0) rfl).1.cell;have n1:=(M4.o.cell (i:=1) rfl).1;have HQ:=Y M4.o.2.2;go_wp2_with(go_at_call 181;refine(H2.o _ HQ.o _ r9).mono ?_;clear H2;rintro e w5 ⟨u5,rfl,ax,f⟩;obtain⟨a7,l7,c7,rfl⟩:=ax.form;have n5:=boxed_below n1 f;have x0:=n5.cell;have x1:=n5.frozen;have Qn:=Y (Nu n5 (x:=C a7 l7 c7) ax);have Qk:=Y ((Bt HQ.o f).setCell (p:=⟨w.heap.size+1,0,none⟩) (by show w.heap.size<=w.heap.size+1;omega) (C a7 l7 c7));clear ax f n5)
      exact A0 (v:=N #[C a7 l7 c7]) (by simp[results,Tryz.results137,go_sem,x0]) rfl ⟨_,rfl,Qn.o,Qk.o⟩
