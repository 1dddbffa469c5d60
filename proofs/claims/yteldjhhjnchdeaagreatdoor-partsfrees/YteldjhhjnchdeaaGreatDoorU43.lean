import Derived.Test.YteldjhhjnchdeaaGreatDoorU42
open Go.Value renaming slice->C,bool->E,pointer->F,agg->L,int->B
open Go renaming undef->G,World->I,Value->N
open Go.Obj renaming cells->H
set_option maxRecDepth 100000
set_option maxHeartbeats 16000000
namespace Go.Proofs.YteldjhhjnchdeaaGreatDoor
section
open Go.RowKit Go.Shelf
attribute [local go_sem] Oper.semAt_some
def lenOf:N->Nat|C _ l _=>l|_=>0
def Mf(w V:I)(a b:N)(Q R:List Rat):Prop:=RowK false V a Q/\RowK false V b R/\Bl w V
theorem Mf.below{w V V':I}{b c:N}{Q R:List Rat}(h:Mf w V b c Q R)(a:Bl V V'):Mf w V' b c Q R:=⟨h.1.below a,h.2.1.below a,Bt h.2.2 a⟩
def IC(S:Nat->List Rat->List Rat->Prop)(la:Nat)(ps qs R Q:List Rat)(k:Nat):Prop:=
 Jd R=R/\Jd Q=Q/\k+R.length<=la/\Q.length<=la/\(∀x,ev ps x=ev qs x*ev Q x+ev R x)/\(∀i,i+qs.length<=R.length->cf Q i=0)/\S k R Q
structure DivS(A la:Nat)(S:Nat->List Rat->List Rat->Prop)(qs:List Rat):Prop where
 next:∀(k:Nat) (R Q:List Rat) (n:Nat) (a:Rat),S k R Q->(∀i,i+qs.length<=R.length->cf Q i=0)->qs.length<=R.length->n=R.length-qs.length->a=cf R (R.length-1)/cf qs (qs.length-1)->
  (∀i,cf (JP R (Jv (Jd (Dp n [a])) qs)) i=cf R i-(if n<=i then a*cf qs (i-n)else 0))->(∀i,cf (Xz Q (Jd (Dp n [a]))) i=if i=n then a else cf Q i)->S (k+1) (JP R (Jv (Jd (Dp n [a])) qs)) (Xz Q (Jd (Dp n [a])))
 size:∀(k:Nat) (R Q:List Rat),k<=la->S k R Q->Sqs R/\Sqs Q/\∃z,z+(2*A+1)<=1000000000/\∀i,Da z (cf R i)
variable{ps qs:List Rat}{S:Nat->List Rat->List Rat->Prop}
theorem IC.start(a:Jd ps=ps)(h:S 0 ps []):IC S ps.length ps qs ps [] 0:=by
 refine⟨a,rfl,J,Y,λx=>?_,λi _=>Yw i,h⟩;show _=ev qs x*0+_;grind
theorem IC.next{A la:Nat}{S:Nat->List Rat->List Rat->Prop}{ps qs R Q:List Rat}{k n:Nat}{a:Rat}(o:DivS A la S qs)(h:IC S la ps qs R Q k)(q:Jd qs=qs)(g:qs≠[])(hl:qs.length<=R.length)(f:n=R.length-qs.length)
(d:a=cf R (R.length-1)/cf qs (qs.length-1)):IC S la ps qs (JP R (Jv (Jd (Dp n [a])) qs)) (Xz Q (Jd (Dp n [a]))) (k+1):=by
 obtain⟨r,s,t,u,l,c,m⟩:=h;have w:0<qs.length:=Al.2 g;have j:∀i,cf (JP R (Jv (Jd (Dp n [a])) qs)) i=cf R i-(if n<=i then a*cf qs (i-n)else 0):=λi=>by rw[Kg,MR]
 have b:∀i,cf (Xz Q (Jd (Dp n [a]))) i=if i=n then a else cf Q i:=λi=>by
  rw[O0,MQ];split
  . rename_i e;rw[e,c n J,Rat.zero_add]
  . exact FN _
 have v:=SF q g hl f d;refine⟨XQ _ _,XP _ _,J,Xc (XP _ _) λi p=>?_,λx=>?_,λi p=>?_,o.next k R Q n a m c hl f d j b⟩
 . rw[b,BE J,J1 J]
 . rw[Xt,Gy,Jo,R9,l x];grind
 . rw[b,BE J];exact c i J
theorem IC.done{la:Nat}{R Q:List Rat}{k:Nat}(h:IC S la ps qs R Q k)(b:Jd qs=qs)(a:qs≠[])(hl:R.length<qs.length):Q=JS ps qs/\R=JU ps qs:=by
 obtain⟨g,i,_,_,j,_⟩:=h;obtain⟨c,d,e,f⟩:=YK ps qs b a;exact Oy b a i e g f hl d (λx=>by rw[<-j x,<-c x])
theorem Se(S:Nat->List Rat->List Rat->Prop)(A:Nat)(va vb:N)(ps qs:List Rat)(w:I)(ha:RowK false w va ps)(hb:RowK false w vb qs)(an:DivS A ps.length S qs)(am:S 0 ps [])(hq:∀i,Da A (cf qs i))(aw:Jd ps=ps)(ay:Jd qs=qs)(af:qs≠[])(ei:ps.length<=1000):
 Calls Tryz.prog 41 #[va,vb] w λe g=>∃u v,e=.returned (.tuple #[u,v])/\RowK false g u (JS ps qs)/\RowK false g v (JU ps qs)/\Bl w g:=by
 obtain⟨a,la,ca,rfl⟩:=ha.form;obtain⟨b,lb,cb,rfl⟩:=hb.form;obtain⟨ed,dt,dw,eh,_⟩:=ha.formsF;obtain⟨ct,du,dx,de,s',t',ah,ai,bh,aj,bg,ak,ck⟩:=hb.formsF;have Un:0<qs.length:=Al.2 af;have Qi:=O (KL _ ps w ha);rw[aw]at Qi;obtain⟨HB,Ul,HQ,Qf,Qh,Qn,Ql,Ub⟩:=Ho ck hb hq ay af ct an (JA ay af);have Qx:=O (show Sqs qs from Sqs.of λi=>Sq.of (hq i) (by
  obtain⟨_,_,z,h1,_⟩:=an.size 0 ps [] (AK _) am;omega))
 have Qd:=O (IC.start (qs:=qs) aw am);obtain⟨lp,dh⟩:=ex (ps.length);rw[dh]at Qd Ql;have fc:1<=lb:=J
 have fd:lb<=1099511627776:=de;have fe:lp<=1000:=J
 clear ha hb am an hq aw ay af ed ct dt dw du dx eh de ck Un ei dh;go_enter Tryz.func41,Tryz.ntmps41
 go_wp2_with(go_at_call 45;refine Qi.o.mono ?_;clear Qi;rintro e w0 ⟨u0,rfl,ae,cg⟩;obtain⟨a0,l0,c0,rfl⟩:=ae.form)
 go_loopw [6,7,8] (λqv rv _ wr=>∃(k lr:Nat) (Q R:List Rat),(∃ra rc,rv=C ra lr rc)/\(∃qa ql qc,qv=C qa ql qc)/\lr<=1000/\Hid (lr=R.length)/\Hid (Mf w wr qv rv Q R)/\Hid (IC S lp ps qs R Q k)) λ_ rv _ _=>lenOf rv
 case atStart=>exact⟨0,_,[],ps,⟨_,_,rfl⟩,⟨_,_,_,rfl⟩,by obtain⟨_,_,e,_⟩:=id ae;cases e;have:=Qd.o.2.2.1;omega,O (by obtain⟨_,_,e,_⟩:=id ae;cases e;rfl),O ⟨RowK.nil _ _,ae,cg⟩,Qd⟩
 case round=>
  clear ae cg Qd;obtain⟨k,lr,Q,R,⟨ra,rc,rfl⟩,⟨qa,ql,qc,rfl⟩,fg,y,o,T⟩:=hrel;by_cases f8:lb<=lr
  . have Qj:(lb:Int)<=(lr:Int):=J
    obtain⟨n,hn⟩:=ex (lr-lb:Nat);obtain⟨m,hm⟩:=ex (lr-1:Nat);obtain⟨c,dz⟩:=ex (lb-1:Nat);have fk:(lr:Int)-(lb:Int)=(n:Int):=J
    have fh:(lr:Int)-1=(m:Int):=J
    have f9:(lb:Int)-1=(c:Int):=J
    have fl:IntKind.i64.wrap (n:Int)=(n:Int):=by rw[BS];omega
    have fi:IntKind.i64.wrap (m:Int)=(m:Int):=by rw[BS];omega
    have fa:IntKind.i64.wrap (c:Int)=(c:Int):=by rw[BS];omega
    have fj:(m:Int)<(lr:Int):=J
    have fb:(c:Int)<(lb:Int):=J
    have r:=O (show n=R.length-qs.length/\m=R.length-1/\c=qs.length-1/\qs.length<=R.length by have:=y.o;have:=Qn.o;omega);have Qe:=O (show n<1099511627775/\n+1<=1001 by omega);obtain⟨et,ew,f6,f7,s,t,aa,bb,ll,cc,kk,dd,cl⟩:=o.o.2.1.formsF;clear et ew f6 f7;obtain⟨cn,d,rfl,ad,bi,bj,bk,bm⟩:=cl m J;obtain⟨co,f,rfl,q,bn,bt,bu,ce⟩:=HB.o c J;have W:=O (show ∀V,Bl wr V->(V.cell? ⟨d,m*4,none⟩=some (C (aa m) (ll m) (cc m))/\V.cell? ⟨d,m*4+1,none⟩=some (E (s m))/\V.cell? ⟨d,m*4+2,none⟩=some (C (bb m) (kk m) (dd m))/\V.cell? ⟨d,m*4+3,none⟩=some (E (t m)))/\Js V (L #[C (aa m) (ll m) (cc m),E (s m),C (bb m) (kk m) (dd m),E (t m)]) (cf R m)from λV l=>by
     exact⟨⟨(l.cell (p:=⟨d,_,none⟩) ad).trans bi,(l.cell (p:=⟨d,_,none⟩) ad).trans bj,(l.cell (p:=⟨d,_,none⟩) ad).trans bk,(l.cell (p:=⟨d,_,none⟩) ad).trans bm⟩,cn.below l⟩)
    have X:=O (show ∀V,Bl w V->(V.cell? ⟨f,c*4,none⟩=some (C (ah c) (bh c) (aj c))/\V.cell? ⟨f,c*4+1,none⟩=some (E (s' c))/\V.cell? ⟨f,c*4+2,none⟩=some (C (ai c) (bg c) (ak c))/\V.cell? ⟨f,c*4+3,none⟩=some (E (t' c)))/\Js V (L #[C (ah c) (bh c) (aj c),E (s' c),C (ai c) (bg c) (ak c),E (t' c)]) (cf qs c)from λV l=>by
     exact⟨⟨(l.cell (p:=⟨f,_,none⟩) q).trans bn,(l.cell (p:=⟨f,_,none⟩) q).trans bt,(l.cell (p:=⟨f,_,none⟩) q).trans bu,(l.cell (p:=⟨f,_,none⟩) q).trans ce⟩,co.below l⟩)
    obtain⟨sR,sQ,z,hz,dp⟩:=Ql.o.size k R Q (by have:=T.o.2.2.1;omega) T.o.2.2.2.2.2.2;obtain⟨x,hx⟩:=ex (cf R m/cf qs c);have Qs:=O (show x=cf R (R.length-1)/cf qs (qs.length-1)by rw[<-hx,<-r.o.2.1,<-r.o.2.2.1]);have Qy:=O (show cf qs c≠0 by rw[r.o.2.2.1];exact Ub.o);have Qg:Da (z+A) x:=by rw[<-hx];exact(dp m).div2 (HQ.o c) Qy.o
    obtain⟨Uf,Qq,Qp,Ui,Um,Uk,Qu⟩:=Lm (show Sq x from Sq.of Qg J) (show ∀j,Sq (x*cf qs j)from λj=>Sq.of (Qg.mul2 (HQ.o j)) J) sR sQ hx (T.o.next Ql.o Qf.o Qh.o r.o.2.2.2 r.o.1 Qs.o) (SF Qf.o Qh.o r.o.2.2.2 r.o.1 Qs.o);have Qo:=O (show Sqs (Jd (Dp n [x]))from Sqs.of λi=>by
     rw[MQ];split
     . exact Uf.o
     . exact Sq.of (Da.zero 1 J) J)
    have Qz:=O (show Sqs (Jv (Jd (Dp n [x])) qs)from Sqs.of λi=>by
     rw[MR];split
     . exact Qq.o _
     . exact Sq.of (Da.zero 1 J) J)
    have Uc:=O (show M3.X9 (Jd (Dp n [x])) qs from dN (n:=n) (λi hi=>by rw[MQ,BE hi]) λj=>by rw[MQ,BG rfl];exact Qq.o j);have Qv:=O (dM n x);have Ua:=O (show(Jv (Jd (Dp n [x])) qs).length<1099511627776 by
     have h1:(Jv (Jd (Dp n [x])) qs).length<=R.length:=Xc (Yt _ _) (λi hi=>by
      rw[MR];split
      . rw[J1 (p:=qs) (by have:=r.o;omega),FW]
      . rfl)
     have:=y.o;omega)
    have Qw:=O (show Q.length<1099511627776/\R.length<1099511627776 by have:=T.o.2.2.2.1;have:=y.o;omega);clear cn ad bi bj bk bm co q bn bt bu ce cl hz dp sR sQ hx Qg hn hm dz;go_wp2_with fail
    have hq:Bl wr wr.drew:=(BB _ wr).drew;obtain⟨⟨D,K,M,P⟩,_⟩:=W.o _ hq;obtain⟨⟨f0,f1,f2,f3⟩,_⟩:=X.o _ (Bt o.o.2.2 hq);have Qk:=O λ(V:I) (h:Bl wr V)=>RW _ _ (cf R m) (cf qs c) V (W.o V h).2 (X.o V (Bt o.o.2.2 h)).2 (Qp.o.at m) (Qx.o.at c) Qy.o;rw[Um.o]at Qk;have Qr:=O λ(V:I) (v:N) (hv:Js V v x)=>K5 v n x V hv Qe.o.1;go_region_held3 (λg=>(g.cell? ⟨d,m*4,none⟩=some (C (aa m) (ll m) (cc m))/\g.cell? ⟨d,m*4+1,none⟩=some (E (s m))/\g.cell? ⟨d,m*4+2,none⟩=some (C (bb m) (kk m) (dd m))/\g.cell? ⟨d,m*4+3,none⟩=some (E (t m)))/\g.cell? ⟨f,c*4,none⟩=some (C (ah c) (bh c) (aj c))/\g.cell? ⟨f,c*4+1,none⟩=some (E (s' c))/\g.cell? ⟨f,c*4+2,none⟩=some (C (ai c) (bg c) (ak c))/\g.cell? ⟨f,c*4+3,none⟩=some (E (t' c))) (first|(with_reducible exact⟨⟨D,K,M,P⟩,f0,f1,f2,f3⟩)|(go_keep;done))
     (first
      |(go_at_call 77;refine(Qk.o _ hq).mono ?_;clear Qk;rintro e w5 ⟨v5,rfl,dj,ci⟩;replace hq:=Bt hq ci;clear ci D K M P f0 f1 f2 f3;obtain⟨⟨D,K,M,P⟩,_⟩:=W.o _ hq;obtain⟨⟨f0,f1,f2,f3⟩,_⟩:=X.o _ (Bt o.o.2.2 hq))
      |(go_at_call 78;refine(Qr.o _ _ dj).mono ?_;clear Qr dj;rintro e w6 ⟨v6,rfl,bf,cj⟩;replace hq:=Bt hq cj;clear cj D K M P f0 f1 f2 f3;obtain⟨⟨D,K,M,P⟩,_⟩:=W.o _ hq;obtain⟨⟨f0,f1,f2,f3⟩,_⟩:=X.o _ (Bt o.o.2.2 hq);obtain⟨a9,l9,c9,rfl⟩:=bf.form))
    have HM:=O bf;have HV:=O (o.o.below hq);clear bf hq D K M P f0 f1 f2 f3 W X;obtain⟨H1,H2,H3⟩:=Dg (OE _ _ Q (Jd (Dp n [x])) w6 HV.o.1 HM.o Ui.o Qo.o ⟨Qw.o.1,by have:=Qv.o;have:=Qe.o;omega⟩) (λ(U:I) (h:Bl w6 U)=>OQ _ _ (Jd (Dp n [x])) qs U (HM.o.below h) (Ul.o.below (Bt HV.o.2.2 h)) Qo.o Qx.o Uc.o (by have:=Qv.o;have:=Qe.o;have:=Qn.o;omega)) λ(U:I) (h:Bl w6 U) (v:N) (hv:RowK false U v (Jv (Jd (Dp n [x])) qs))=>Rb _ v R _ U (HV.o.2.1.below h) hv Qp.o Qz.o ⟨Qw.o.2,Ua.o⟩;go_wp2_with(first
     |(go_at_call 64;refine H1.o.mono ?_;clear H1;rintro e w1 ⟨u1,rfl,az,aq⟩;obtain⟨a1,l1,c1,rfl⟩:=az.form;have Uh:=O az;clear az)
     |(go_at_call 14;refine(H2.o _ aq).mono ?_;clear H2;rintro e w2 ⟨u2,rfl,di,q⟩;have Qm:=Bt aq q;have Ug:=O (Uh.o.below q);clear q)
     |(go_at_call 63;refine(H3.o _ Qm _ di).mono ?_;clear H3;rintro e w3 ⟨u3,rfl,bc,ap⟩;obtain⟨a3,c3,rfl,_⟩:=id bc;have Uj:=O bc;have Ud:=O (Bt Qm ap);have Ue:=O (Ug.o.below ap);clear di bc ap aq Qm))
    go_roundw
    case rel=>exact⟨k+1,_,_,_,⟨_,_,rfl⟩,⟨_,_,_,rfl⟩,by have:=Qu.o;have:=y.o;omega,O rfl,O ⟨Ue.o,Uj.o,Bt HV.o.2.2 Ud.o⟩,Uk⟩
    case measure=>
     show(JP R _).length<lr;have:=Qu.o;have:=y.o;omega
  . have Qj:¬(lb:Int)<=(lr:Int):=J
    have Qt:=O (T.o.done Qf.o Qh.o (by have:=y.o;have:=Qn.o;omega));go_wp2_with fail
    exact BA (v:=.tuple #[C qa ql qc,C ra lr rc]) (by simp[results,Tryz.results41,go_sem]) rfl ⟨_,_,rfl,by rw[<-Qt.o.1];exact o.o.1,by rw[<-Qt.o.2];exact o.o.2.1,o.o.2.2⟩
end
section
open Go.RowKit Go.Shelf
section
variable {D E l:Int} {K A:Nat} {ps qs:List Rat}
structure Dvn(D E l:Int)(K A:Nat)(ps qs:List Rat):Prop where
 hD:D≠0
 sD:Sm K D
 hp:ED D K ps
 hE:E≠0
 sE:Sm A E
 hq:ED E A qs
 hl:l≠0
 sl:Sm A l
 lead:cf qs (qs.length-1)=Rat.divInt l E
variable{m:Nat}
theorem Dvn.lne(h:Dvn D E l K A ps qs):cf qs (qs.length-1)≠0:=by
 rw[h.lead];intro e;have hE:(E:Rat)≠0:=by exact_mod_cast h.hE
 have a:(l:Rat)/(E:Rat)*(E:Rat)=l:=Cq hE;rw[<-CV,e,CE]at a;exact h.hl (by exact_mod_cast a.symm)
theorem Dvn.sq(h:Dvn D E l K A ps qs)(i:Nat):Da A (cf qs i):=(h.hq i).smq h.hE h.sE
theorem Dvn.den(h:Dvn D E l K A ps qs)(k:Nat):D*l^k≠0/\Sm (K+k*(A+1)+1) (D*l^k):=by
 refine⟨Co h.hD (Int.pow_ne_zero h.hl),(h.sD.mul (h.sl.powZ k)).mono ?_⟩;rw[Ax];omega
theorem Dvn.at(h:Dvn D E l K A ps qs)(k:Nat):(∀i,Da (K+k*(A+1)+1) (cf (JF ps qs (qs.length-1) m k).2 i))/\∀i,Da (K+k*(A+1)+1) (cf (JF ps qs (qs.length-1) m k).1 i):=by
 have b:=SM (m:=m) h.hD h.hp h.hE h.sE h.hq h.hl h.sl h.lead h.lne k;have a:=h.den k;exact⟨λi=>((b.1 i).mono J).smq a.1 a.2,λi=>((b.2 i).mono J).smq a.1 a.2⟩
theorem Dvn.sizes(h:Dvn D E l K A ps qs)(c:2*(K+m*(A+1)+1)+2*(2*A+1)<=1000000000):∀k,k<=m->∃z,z+(2*A+1)<=1000000000/\(k<m->2*z+2*(2*A+1)<=1000000000)/\(∀i,Da z (cf (JF ps qs (qs.length-1) m k).2 i))/\∀i,Da (z+A) (cf (JF ps qs (qs.length-1) m k).1 i):=by
 intro k a;have b:k*(A+1)<=m*(A+1):=Ak _ a;exact⟨K+k*(A+1)+1,J,λ_=>by omega,(h.at k).1,λi=>((h.at k).2 i).mono J⟩
theorem Dvn.rem(h:Dvn D E l K A ps qs)(b:ps.length-(qs.length-1)=m):ED (D*l^m) (K+m*(A+1)) (JU ps qs)/\ED (D*l^m) (K+m*(A+1)) (JS ps qs):=by
 have a:=SM (m:=m) h.hD h.hp h.hE h.sE h.hq h.hl h.sl h.lead h.lne m;refine⟨λi=>?_,λi=>?_⟩
 . unfold JU;rw[JR,b];exact a.1 i
 . unfold JS;rw[JR,b];exact a.2 i
theorem Dvn.divS(h:Dvn D E l K A ps qs)(la:Nat)(P:K+la*(A+1)+1+(2*A+1)<=1000000000):DivS A la (λk R Q=>ED (D*l^k) (K+k*(A+1)) R/\ED (D*l^k) (K+k*(A+1)) Q) qs:=by
 refine⟨?_,?_⟩
 . rintro k R Q n a ⟨b,d⟩ _ _ _ u w v;have q:D*l^k≠0:=(h.den k).1;have e:D*l^(k+1)=D*l^k*l:=by rw[Int.pow_succ,CP]
   rw[e];have p:D*l^k*l≠0:=Co q h.hl;obtain⟨r,t,g⟩:=b (R.length-1);have f:a=Rat.divInt (r*E) (D*l^k*l):=by
    rw[u];have s:cf R (R.length-1)=Rat.divInt (r*E) (D*l^k*l)*cf qs (qs.length-1):=by
     rw[h.lead,CW,t,show r*E*l=r*(E*l)from CP _ _ _,show D*l^k*l*E=D*l^k*(E*l)by rw[CP (D*l^k),Fl l E],C0 (Co h.hE h.hl)]
    rw[s,Rat.mul_div_cancel h.lne]
   have m:CD (D*l^k*l) (K+(k+1)*(A+1)) a:=⟨r*E,f,(g.mul h.sE).mono (by rw[Ay];omega)⟩;have o:∀j,CD (D*l^k*l) (K+k*(A+1)+A) (a*cf qs j):=λj=>by
    obtain⟨x,ex,z⟩:=h.hq j;refine⟨r*x,?_,g.mul z⟩;rw[f,ex,CW,show r*E*x=r*x*E by rw[CP,Fl E x,CP],C0 h.hE]
   refine⟨λi=>?_,λi=>?_⟩
   . rw[w];split
     . rw[FC];exact(((b i).wide h.sl h.hl).add (SL (o _)) p).mono (by rw[Ay];omega)
     . rw[FC,Rat.neg_zero,FN];exact((b i).wide h.sl h.hl).mono (by rw[Ay];omega)
   . rw[v];split
     . exact m
     . exact((d i).wide h.sl h.hl).mono (by rw[Ay];omega)
 . rintro k R Q y ⟨b,d⟩;have M:k*(A+1)<=la*(A+1):=Ak _ y;have c:=h.den k;exact⟨Sqs.of λi=>Sq.of (((b i).mono J).smq c.1 c.2) J,Sqs.of λi=>Sq.of (((d i).mono J).smq c.1 c.2) J,K+k*(A+1)+1,J,λi=>((b i).mono J).smq c.1 c.2⟩
theorem Dvn.start(h:Dvn D E l K A ps qs):ED (D*l^0) (K+0*(A+1)) ps/\ED (D*l^0) (K+0*(A+1)) []:=by
 rw[Int.pow_zero,Int.mul_one];exact⟨λi=>(h.hp i).mono J,λi=>by rw[Yw];exact CD.zero _ _⟩
end
def Eg(A:Nat)(p:List Rat):Prop:=∀i,∃z:Int,Sm A z/\cf p i=(z:Rat)
variable{p:List Rat}{A:Nat}
theorem Eg.cdl(h:Eg A p):ED 1 A p:=λi=>by
 obtain⟨z,a,b⟩:=h i;exact Md DQ a (by rw[b];grind)
theorem Eg.mono{A B:Nat}{p:List Rat}(h:Eg A p)(c:A<=B):Eg B p:=λi=>by
 obtain⟨z,a,b⟩:=h i;exact⟨z,a.mono c,b⟩
theorem Eg.ln{A:Nat}{p:List Rat}(h:Eg A p):Ln A p:=h.cdl.ln DQ
theorem Eg.smq{A:Nat}{p:List Rat}(h:Eg A p)(a:1<=A)(i:Nat):Da A (cf p i):=(h.cdl i).smq DQ (Sm.one A a)
theorem Sf(hp:Jd p=p)(d:p≠[])(h:Ln A p):∃E:Int,E≠0/\Sm A E/\ED E A (JC p):=by
 obtain⟨c,k,b⟩:=h;have hl:=JA hp d;obtain⟨E,f,a⟩:=b (p.length-1);have hE:E≠0:=λe=>by
  rw[e]at a;exact H7 hl k a
 refine⟨E,hE,f,λi=>?_⟩;obtain⟨z,g,j⟩:=b i;refine Md hE g ?_;unfold JC;rw[Xa,<-j,<-a];grind
theorem Ln.sqs(hp:Jd p=p)(h:Ln A p)(hA1:1<=A):∀i,Da A (cf (JC p) i):=by
 by_cases a:p=[]
 . subst a;intro i;rw[eB,Yw];exact Da.zero _ hA1
 . obtain⟨E,b,c,d⟩:=Sf hp a h;exact λi=>(d i).smq b c
end
section
variable{p q:List Rat}{c:Rat}
theorem eL(c:Rat):Yz c=c\/Yz c=-c:=by
 unfold Yz;split
 . exact Or.inr rfl
 . exact Or.inl rfl
theorem eM(h:c≠0):Yz c≠0:=by
 rcases eL c with e|e
 . rw[e];exact h
 . rw[e];intro a;exact h (by rw[<-Rat.neg_neg c,a];rfl)
theorem eN(h:c≠0):∀n:Nat,c^n≠0:=by
 intro n;induction n with
 |zero=>rw[Rat.pow_zero];decide
 |succ n a=>rw[Rat.pow_succ];exact H7 a h
def Gs(p q:List Rat):Rat:=Yz (cf q (q.length-1))^(p.length+1-q.length)
def Xi(p q:List Rat):List Rat:=Dd (Gs p q) p
def Eh(p q:List Rat):List Rat:=JP [] (YY (JU (Xi p q) q))
theorem eO:YY []=[]:=rfl
theorem KX(p:List Rat):Jd (YY p)=YY p:=JZ _ _
theorem Mg(hp:Jd p=p):∃c:Rat,0<c/\YY p=Dd c p:=by
 by_cases a:p=[]
 . subst a;exact⟨1,DQ,rfl⟩
 . exact⟨_,eK hp a,rfl⟩
theorem LC(hp:Jd p=p){K:Nat}(h:Ln K p):Eg K (YY p):=by
 by_cases a:p=[]
 . subst a;exact λi=>⟨0,Sm.zero K,by rw[eO,Yw];rfl⟩
 . exact Sd hp a h
theorem Ob(hq:Jd q=q)(a:q≠[]):Gs p q≠0:=eN (eM (JA hq a)) _
theorem Mh(p q:List Rat):Jd (Eh p q)=Eh p q:=XQ _ _
theorem Oc(hq:Jd q=q)(b:q≠[]):∃c:Rat,c≠0/\Eh p q=Dd c (JU p q)/\Eh p q=Dd (-1) (YY (JU (Xi p q) q)):=by
 have a:Eh p q=Dd (-1) (YY (JU (Xi p q) q)):=E0 (Mh _ _) (JZ _ _) λx=>by
  unfold Eh;rw[Gy,YX];simp[ev];grind
 have f:=(MX (c:=Gs p q) (d:=1) DQ p q hq b).2;rw[KW hq]at f;obtain⟨c,g,j⟩:=Mg (YU (Xi p q) q);have i:c≠0:=λe=>by rw[e]at g;exact absurd g DQ
 refine⟨Gs p q*c*-1,H7 (H7 (Ob hq b) i) DQ,?_,a⟩;rw[a,j];unfold Xi;rw[f,OY,OY,Rat.mul_assoc]
theorem Sg(hq:Jd q=q)(a:q≠[]){A:Nat}(h:Ln A (JU p q)):Eg A (YY (JU (Xi p q) q))/\Eg A (Eh p q):=by
 have b:=(MX (c:=Gs p q) (d:=1) DQ p q hq a).2;rw[KW hq]at b;have f:Eg A (YY (JU (Xi p q) q)):=LC (YU _ _) (by unfold Xi;rw[b];exact h.sc (Ob hq a));refine⟨f,λi=>?_⟩;obtain⟨z,g,j⟩:=f i;obtain⟨_,_,_,e⟩:=Oc (p:=p) hq a;exact⟨-z,g.neg,by rw[e,Xa,j,Rat.intCast_neg];grind⟩
structure Chn(p q:List Rat)(A:Nat)(a b:List Rat):Prop where
 ta:Jd a=a
 tb:Jd b=b
 wa:Eg A a
 wb:Eg A b
 gc:JL a b=JL p q
 la:a.length<=max p.length q.length
 lb:b.length<=q.length
 nx:b≠[]->Ln A (JU a b)
 eu:Eu (YY p) (YY q) a b
def Db(K:Nat)(p q:List Rat):Nat:=(K+1)*(p.length+q.length+1)
theorem He(K:Nat)(p q:List Rat):K+1<=Db K p q:=by
 unfold Db
 have:(K+1)*1<=(K+1)*(p.length+q.length+1):=Av _ J
 omega
theorem Sh(K:Nat)(p q:List Rat):(K+1)*(p.length+q.length)<=Db K p q:=Av _ J
theorem XV(hp:Jd p=p):(YY p).length=p.length:=by
 obtain⟨c,a,e⟩:=Mg hp;rw[e];exact Yn (λb=>by rw[b]at a;exact absurd a DQ) hp
theorem Si(hp:Jd p=p)(hq:Jd q=q):JL (YY p) (YY q)=JL p q:=by
 obtain⟨c,b,e⟩:=Mg hp;obtain⟨d,f,g⟩:=Mg hq;rw[e,g];exact Mb (λa=>by rw[a]at b;exact absurd b DQ) (λa=>by rw[a]at f;exact absurd f DQ) hp hq
section
variable {K:Nat} {p q a b:List Rat}
theorem Chn.ln_rem(hp:Jd p=p)(hq:Jd q=q)(d:Ln K p)(e:Ln K q)(hl:p.length+q.length<=1000000000)(h:Eu (YY p) (YY q) a b)(f:b≠[]):Ln (Db K p q) (JU a b):=by
 have c:=SV (KX p) (KX q) (LC hp d).ln (LC hq e).ln (by rw[XV hp,XV hq];exact hl) h f;rw[XV hp,XV hq]at c;exact c.mono (Sh _ _ _)
theorem Chn.start(hp:Jd p=p)(hq:Jd q=q)(a:Ln K p)(b:Ln K q)(hl:p.length+q.length<=1000000000):Chn p q (Db K p q) (YY p) (YY q) where
 ta:=KX p
 tb:=KX q
 wa:=(LC hp a).mono (by have:=He K p q;omega)
 wb:=(LC hq b).mono (by have:=He K p q;omega)
 gc:=Si hp hq
 la:=by rw[XV hp];exact Nat.le_max_left _ _
 lb:=by rw[XV hq];exact Aa _
 nx:=Chn.ln_rem hp hq a b hl (.base _ _)
 eu:=.base _ _
theorem Chn.next(hp:Jd p=p)(hq:Jd q=q)(i:Ln K p)(j:Ln K q)(hl:p.length+q.length<=1000000000)(h:Chn p q (Db K p q) a b)(d:b≠[]):Chn p q (Db K p q) b (Eh a b):=by
 obtain⟨c,g,e,_⟩:=Oc (p:=a) h.tb d;have f:Eu (YY p) (YY q) b (Eh a b):=by rw[e];exact h.eu.tail d g
 have l:(Eh a b).length<b.length:=by
  rw[e,Yn g (YU _ _)];exact(YK a b h.tb d).2.1
 have k:=h.lb;exact⟨h.tb,Mh _ _,h.wb,(Sg h.tb d (h.nx d)).2,by rw[<-f.gcd (KX p) (KX q)];exact Si hp hq,J,J,Chn.ln_rem hp hq i j hl f,f⟩
end
variable{p:List Rat}{A:Nat}
theorem Mi{a b:List Rat}(f:Jd b=b)(d:b≠[]):(Eh a b).length<b.length:=by
 obtain⟨c,g,e,_⟩:=Oc (p:=a) f d;rw[e,Yn g (YU _ _)];exact(YK a b f d).2.1
structure Rhn(p q:List Rat)(A:Nat)(a b:List Rat):Prop where
 ta:Jd a=a
 tb:Jd b=b
 ca:∃D:Int,D≠0/\Sm A D/\ED D A a
 cb:∃E:Int,E≠0/\Sm A E/\ED E A b
 mb:b≠[]->cf b (b.length-1)=1
 ma:JC a=a
 gc:JL a b=JL p q
 la:a.length<=max p.length q.length
 lb:b.length<=q.length
 nx:b≠[]->Ln A (JU a b)
 eu:Eu (JC p) (JC q) a b
theorem Sj(a:1<=A):∃D:Int,D≠0/\Sm A D/\ED D A []:=⟨1,DQ,Sm.one A a,λi=>by rw[Yw];exact CD.zero _ _⟩
theorem LD(hp:Jd p=p)(h:Ln A p)(b:1<=A):∃E:Int,E≠0/\Sm A E/\ED E A (JC p):=by
 by_cases a:p=[]
 . subst a;exact Sj b
 . exact Sf hp a h
theorem Sk{K:Nat}(hp:Jd p=p)(h:Ln K p):Ln K (JC p):=by
 by_cases a:p=[]
 . subst a;exact h
 . exact h.sc (IB (JA hp a))
theorem Sl(hp:Jd p=p)(h:JC p≠[]):cf (JC p) ((JC p).length-1)=1:=MZ hp (λe=>h (by rw[e];rfl))
section
variable {K:Nat} {p q a b:List Rat}
theorem Rhn.ln_rem(hp:Jd p=p)(hq:Jd q=q)(d:Ln K p)(e:Ln K q)(hl:p.length+q.length<=1000000000)(h:Eu (JC p) (JC q) a b)(f:b≠[]):Ln (Db K p q) (JU a b):=by
 have c:=SV (Y4 p) (Y4 q) (Sk hp d) (Sk hq e) (by rw[Ys hp,Ys hq];exact hl) h f;rw[Ys hp,Ys hq]at c;exact c.mono (Sh _ _ _)
theorem Rhn.start(hp:Jd p=p)(hq:Jd q=q)(a:Ln K p)(b:Ln K q)(hl:p.length+q.length<=1000000000):Rhn p q (Db K p q) (JC p) (JC q) where
 ta:=Y4 p
 tb:=Y4 q
 ca:=LD hp (a.mono (by have:=He K p q;omega)) (by have:=He K p q;omega)
 cb:=LD hq (b.mono (by have:=He K p q;omega)) (by have:=He K p q;omega)
 mb:=Sl hq
 ma:=Ma hp
 gc:=SW p q hp hq
 la:=by rw[Ys hp];exact Nat.le_max_left _ _
 lb:=by rw[Ys hq];exact Aa _
 nx:=Rhn.ln_rem hp hq a b hl (.base _ _)
 eu:=.base _ _
theorem Rhn.next(hp:Jd p=p)(hq:Jd q=q)(i:Ln K p)(j:Ln K q)(hl:p.length+q.length<=1000000000)(h:Rhn p q (Db K p q) a b)(d:b≠[]):Rhn p q (Db K p q) b (JC (JU a b)):=by
 have e:=YU a b;have f:Eu (JC p) (JC q) b (JC (JU a b)):=by
  by_cases g:JU a b=[]
  . have:=h.eu.tail (c:=1) d DQ;rw[g]at this ⊢;exact this
  . exact h.eu.tail d (IB (JA e g))
 have l:(JC (JU a b)).length<b.length:=by
  rw[Ys e];exact(YK a b h.tb d).2.1
 have k:=h.lb;refine⟨h.tb,Y4 _,h.cb,LD e (h.nx d) (by have:=He K p q;omega),Sl e,?_,by rw[<-f.gcd (Y4 p) (Y4 q)];exact SW p q hp hq,J,J,Rhn.ln_rem hp hq i j hl f,f⟩;unfold JC;rw[h.mb d,show(1:Rat)/1=1 by grind];exact KW h.tb
end
end
section
open Go.RowKit Go.Shelf
theorem Sn(q:Rat):Hr q 0<0↔q<0:=by
 rw[Rat.lt_iff];unfold Hr EX;split<;>(try split)<;>omega
theorem eP(a b:Nat):(a:Int)*((b:Int)/((Int.gcd a b:Nat):Int))=((Nat.lcm a b:Nat):Int):=by
 show(a:Int)*((b:Int)/((Nat.gcd a b:Nat):Int))=_;rw[<-Fp,<-Fb];congr 1;rw[Nat.lcm,Nat.mul_div_assoc _ (Fh a b)]
theorem KY(ps:List Rat)(i:Nat):(if((i:Nat):Int)<0 then(0:Rat)else cf ps ((i:Nat):Int).toNat)=cf ps i:=by
 rw[BE J,Cy]
theorem eQ(A:Nat)(b c:N)(ps qs:List Rat)(w:I)(g:Jf w b ps)(j:Jf w c qs)(hs:Sqs ps)(hq:∀i,Da A (cf qs i))(l:Jd ps=ps)(m:Jd qs=qs)(a:qs≠[])
(f:∀k,k<=ps.length-(qs.length-1)->∃z,z+(2*A+1)<=1000000000/\(k<ps.length-(qs.length-1)->2*z+2*(2*A+1)<=1000000000)/\(∀i,Da z (cf (JF ps qs (qs.length-1) (ps.length-(qs.length-1)) k).2 i))/\∀i,Da (z+A) (cf (JF ps qs (qs.length-1) (ps.length-(qs.length-1)) k).1 i)):
 Calls Tryz.prog 22 #[b,c] w λe d=>∃u v,e=.returned (.tuple #[u,v,E true])/\Jf d u (JS ps qs)/\Jf d v (JU ps qs)/\Bl w d:=by
 have h:=M3.SI A b c ps qs w g j hs hq l m λ_=>f;rw[BK a,BE a,BE a]at h;exact h
end
namespace M3
open Go.RowKit Go.Shelf
variable{S:List Rat}{c i l n:Nat}{a:Option Addr}{v:N}{V:I}
theorem So(n:Nat)(h:n<=2199023255552)(w:I):(Instr.makeSlice 22 (B .i64 (n:Int)) (B .i64 (n:Int))).run Tryz.prog w=.ok (C (some ⟨w.heap.size,0,none⟩) n n) (w.alloc (H (Ye n) 65)):=by
 obtain⟨i,d,b⟩:=FD.1 Tryz.infoRat;simp only[Prod.mk.injEq]at b;obtain⟨e,hs,c⟩:=b;have a:=run_make (P:=Tryz.prog) w 22 65 i _ Tryz.underlying22 d e .i64 .i64 n n J (Int.le_refl _) (by rw[c];omega) J;simp only[Cy,hs]at a;exact a
theorem Hf(V:I):Has V (L #[C Option.none 0 0]) (.poly []):=⟨_,rfl,row_zero V Option.none⟩
theorem Sp(V:I):Jf V (L #[C Option.none 0 0]) []:=⟨_,rfl,row_zero V Option.none⟩
theorem Mem.poly2{w:I}{bs:List (Option (Nat × Dat))}(M:Mem w V bs){B:Nat}{ps:List Rat}(h:bs[i]?=some (some (B,.poly ps))):∃a l c,Boxed V B 25 (C a l c)/\Jf V (L #[C a l c]) ps:=by
 obtain⟨a,l,c,b,d⟩:=M.poly h;exact⟨a,l,c,b,_,rfl,d⟩
theorem LE{W:I}{B:Nat}(b:Boxed W B 25 (C a l c)){x:N}{qs:List Rat}(h:Jf W v qs):Jf (W.setCell ⟨B,0,Option.none⟩ x) v qs:=by
 obtain⟨u,e,h⟩:=h;exact⟨u,e,FZ b x h⟩
theorem Has.set1{d:Dat}(h:Has V v d){B:Nat}(q:Boxed V B 25 (C a l c))(e:JB (C a l c)=true)(b:N):Has (V.setCell ⟨B,0,Option.none⟩ b) v d:=
 h.keep (QR q e b) (Or.inr λ_ _ g=>FZ q b g)
theorem Tup2.set1{V:I}{v:N}{d1 d:Dat}(h:Tup2 V v d1 d){B:Nat}{a:Option Addr}{l c:Nat}(q:Boxed V B 25 (C a l c))(f:JB (C a l c)=true)(b:N):Tup2 (V.setCell ⟨B,0,Option.none⟩ b) v d1 d:=by
 obtain⟨u1,u2,e,g,i⟩:=h;exact⟨u1,u2,e,g.set1 q f b,i.set1 q f b⟩
attribute [local go_sem] Oper.semAt_some
theorem eS(va:N)(q:Rat)(w:I)(S:Jj w va q)(aj:Sq q):
 Calls Tryz.prog 129 #[va] w λe w'=>∃u,e=.returned u/\Jj w' u (Yz q)/\Bl w w':=by
 obtain⟨an,ad,am,af,ap,ae,ak,ah,rfl⟩:=Jj.form S;have g:=(((Mem.nil w).push (.rat q) S).push (.rat 0) (Ee _));simp only[A1]at g;have g:Mem w ((w.alloc (H #[E an,C ad am af,E ap,C ae ak ah] 65)).alloc (H #[E false,C none 0 0,E false,C none 0 0] 65)) [some (w.heap.size,.rat q),some (w.heap.size+1,.rat 0)]:=g;obtain⟨W0,R⟩:=ex ((w.alloc (H #[E an,C ad am af,E ap,C ae ak ah] 65)).alloc (H #[E false,C none 0 0,E false,C none 0 0] 65));have X:=O R;rw[R]at g;have j:Hid (Mem w W0 [some (w.heap.size,.rat q),some (w.heap.size+1,.rat 0)]):=O g;have W:=O aj;clear g R S aj;go_enter Tryz.func129,Tryz.ntmps129
 go_upto_region 1 with fail
 rw[X.o];clear X;obtain⟨s1,a1,l1,c1,t1,b1,k1,d1,z,A,i1,j1⟩:=j.o.rat (i:=0) rfl;obtain⟨t,k,o,s⟩:=z.cq;obtain⟨s2,a2,l2,c2,t2,b2,k2,d2,a,r2,i2,j2⟩:=j.o.rat (i:=1) rfl;obtain⟨b,c,f,d⟩:=a.cq;obtain⟨m,l,r,p⟩:=a.fq;obtain⟨x,D,HR⟩:=Dg (Q7 _ _ q 0 W0 A (Ee _) W.o Ix) (λ(V:I) (h:Bl W0 V)=>L6 _ _ 0 q V (Ee _) (A.below h) Ix W.o) A;obtain⟨n,T⟩:=ex (Hr q 0);rw[T]at x;have U:=O T;clear T A i1 j1;by_cases ai:n<0
 . have K:=O (show 0-q=Yz q by
    have Q:=(Sn q).1 (by rw[U.o];exact ai);unfold Yz;rw[BG Q];grind)
   rw[K.o]at D;go_wp2_with(first
    |(go_at_call 68;refine x.o.mono ?_;clear x;rintro e w1 ⟨rfl,hq⟩;clear t k o s;obtain⟨t,k,o,s⟩:=(z.below hq).cq;clear b c f d;obtain⟨b,c,f,d⟩:=(a.below hq).cq;clear m l r p;obtain⟨m,l,r,p⟩:=(a.below hq).fq)
    |(go_at_call 51;refine(D.o _ hq).mono ?_;clear D;rintro e w2 ⟨u2,rfl,y,bc⟩;obtain⟨bh,aq,bg,ay,bi,aw,bf,az,rfl⟩:=Jj.form y;have hq:=Bt hq bc;clear t k o s;obtain⟨t,k,o,s⟩:=(z.below hq).cq;clear b c f d;obtain⟨b,c,f,d⟩:=(a.below hq).cq;clear m l r p;obtain⟨m,l,r,p⟩:=(a.below hq).fq))
   have P:=Bt j.o.2.2 hq;have M:=j.o.ge 1 rfl;exact BA (v:=L #[E bh,C aq bg ay,E bi,C aw bf az]) (by simp[results,Tryz.results129,go_sem,b,c,f,d]) rfl ⟨_,rfl,y.put4 (a.below hq) rfl rfl rfl rfl _ _ _ _,Ju P M _ _ _ _⟩
 . have K:=O (show Yz q=q by
    have Q:¬q<0:=λh=>ai (by rw[<-U.o];exact(Sn q).2 h);unfold Yz;rw[BE Q])
   go_wp2_with(go_at_call 68;refine x.o.mono ?_;clear x;rintro e w1 ⟨rfl,hq⟩;clear t k o s;obtain⟨t,k,o,s⟩:=(z.below hq).cq;clear b c f d;obtain⟨b,c,f,d⟩:=(a.below hq).cq;clear m l r p;obtain⟨m,l,r,p⟩:=(a.below hq).fq)
   have y:=HR.o.below hq;rw[<-K.o]at y;have P:=Bt j.o.2.2 hq;have M:=j.o.ge 1 rfl;exact BA (v:=L #[E s1,C a1 l1 c1,E t1,C b1 k1 d1]) (by simp[results,Tryz.results129,go_sem,b,c,f,d]) rfl ⟨_,rfl,y.put4 (a.below hq) rfl rfl rfl rfl _ _ _ _,Ju P M _ _ _ _⟩
theorem eT(va vb:N)(x y:Nat)(w:I)(ha:Jk w va (x:Int))(hb:Jk w vb (y:Int))(hx:0<x)(bc:Sok (x:Int))(bf:Sok (y:Int)):
 Calls Tryz.prog 97 #[va,vb] w λe w'=>∃u,e=.returned u/\Jk w' u ((Nat.lcm x y:Nat):Int)/\Bl w w':=by
 have Qj:Tryz.prog.follows .mixedOrders=true:=by kernel_rfl
 have HG:=O (show((Int.gcd x y:Nat):Int)≠0 by have:=Nat.gcd_pos_of_pos_left y hx;exact Int.natCast_ne_zero.2 (by show Nat.gcd x y≠0;omega));obtain⟨aw,af,ap,aj,rfl⟩:=Jk.form2 ha;obtain⟨ay,ah,aq,ak,rfl⟩:=Jk.form2 hb;have R:=((((Mem.nil w).push (.int ((x:Int))) ha).push (.int ((y:Int))) (Has.alloc (d:=.int ((y:Int))) hb _)).push (.int 0) (EJ _));simp only[A1]at R;have R:Mem w (((w.alloc (H #[E aw,C af ap aj] 63)).alloc (H #[E ay,C ah aq ak] 63)).alloc (H #[E false,C none 0 0] 63)) [some (w.heap.size,.int ((x:Int))),some (w.heap.size+1,.int ((y:Int))),some (w.heap.size+1+1,.int 0)]:=R;obtain⟨W0,am⟩:=ex (((w.alloc (H #[E aw,C af ap aj] 63)).alloc (H #[E ay,C ah aq ak] 63)).alloc (H #[E false,C none 0 0] 63));have Qg:=O am;rw[am]at R;have M1:Hid (Mem w W0 [some (w.heap.size,.int ((x:Int))),some (w.heap.size+1,.int ((y:Int))),some (w.heap.size+1+1,.int 0)]):=O R;have Qc:=O bc;have Qa:=O bf;clear R am ha hb bc bf;go_enter Tryz.func97,Tryz.ntmps97
 go_upto_region 1 with fail
 rw[Qg.o];clear Qg;clear hx;refine Jn Qj [[],[],[],[1,2],[0,3,3],[4],[5],[5],[5],[],[],[9,6,4,0,1,2,3,4,5,6,9,10],[10,7,11,0,1,2,3,4,5,6,7,9,10,11],[8,12,0,1,2,3,4,5,6,7,8,9,10,11,12]] (by kernel_rfl) DQ
  (λD ai V=>∃(tm ta tb tc td tl te tf tg ti tj tk:N) (U T:Option (Nat × Dat)),ai={ tmps:=#[L #[E aw,C af ap aj],L #[E ay,C ah aq ak],F (some ⟨w.heap.size,0,none⟩),F (some ⟨w.heap.size+1,0,none⟩),F (some ⟨w.heap.size+1+1,0,none⟩),ti,tj,tk,tl,tm,ta,tb,tc,td,te,tf,tg,G,G,G],defers:=[] }/\Hid ((D 0=true->Has V tm (.int ((y:Int))))/\(D 1=true->Has V ta (.int ((x:Int))))/\(D 2=true->Has V tb (.int ((y:Int))))/\(D 3=true->Has V tc (.int (((Int.gcd x y:Nat):Int))))/\(D 4=true->Tup2 V td (.int ((y:Int)/((Int.gcd x y:Nat):Int))) (.int ((y:Int)%((Int.gcd x y:Nat):Int))))/\(D 5=true->Tup2 V tl (.int ((y:Int)/((Int.gcd x y:Nat):Int))) (.int ((y:Int)%((Int.gcd x y:Nat):Int))))/\(D 6=true->Has V te (.int ((y:Int)/((Int.gcd x y:Nat):Int))))/\(D 7=true->Has V tf (.int ((y:Int)%((Int.gcd x y:Nat):Int))))/\(D 8=true->tg=E true)/\((D 9=false->U=none)/\(D 9=true->D 11=false->∃B:Nat,ti=F (some ⟨B,0,none⟩)/\U=some (B,.int 0))/\(D 11=true->∃B:Nat,ti=F (some ⟨B,0,none⟩)/\U=some (B,.int ((y:Int)/((Int.gcd x y:Nat):Int)))))/\((D 10=false->T=none)/\(D 10=true->D 12=false->∃B:Nat,tj=F (some ⟨B,0,none⟩)/\T=some (B,.int 0))/\(D 12=true->∃B:Nat,tj=F (some ⟨B,0,none⟩)/\T=some (B,.int ((y:Int)%((Int.gcd x y:Nat):Int)))))/\(D 13=true->tk=E true))/\Hid (Mem w V [some (w.heap.size,.int ((x:Int))),some (w.heap.size+1,.int ((y:Int))),some (w.heap.size+1+1,.int 0),U,T]))
  ⟨_,_,_,_,_,_,_,_,_,_,_,_,none,none,rfl,O ⟨Y,Y,Y,Y,Y,Y,Y,Y,Y,Y,Y,Y⟩,O (((M1.o).none).none).drew⟩ ?step1 ?fin1
 case step1=>
  rintro D ai V i ds az hi f S ⟨tm,ta,tb,tc,td,tl,te,tf,tg,ti,tj,tk,U,T,rfl,b,g⟩;have cg:i<14:=(Ad.1 hi).1;obtain rfl|rfl|rfl|rfl|rfl|rfl|rfl|rfl|rfl|rfl|rfl|rfl|rfl|rfl:=FX i J
  all_goals
   simp only[Af,Ae,Ah]at hi;subst hi
  . clear f;obtain⟨s,a,l,c,n,i⟩:=g.o.int (i:=1) rfl;obtain⟨e0,e1⟩:=n.cp;refine Za ?_;exact⟨_,_,_,_,_,_,_,_,_,_,_,_,_,_,rfl,(Dh b λ_=>i),O (g.o)⟩
  . clear f;obtain⟨s,a,l,c,n,i⟩:=g.o.int (i:=0) rfl;obtain⟨e0,e1⟩:=n.cp;refine Za ?_;exact⟨_,_,_,_,_,_,_,_,_,_,_,_,_,_,rfl,(Dn b λ_=>i),O (g.o)⟩
  . clear f;obtain⟨s,a,l,c,n,i⟩:=g.o.int (i:=1) rfl;obtain⟨e0,e1⟩:=n.cp;refine Za ?_;exact⟨_,_,_,_,_,_,_,_,_,_,_,_,_,_,rfl,(Df b λ_=>i),O (g.o)⟩
  . have Q:=(b.o.2.1 (f 1 Y));have A:=(b.o.2.2.1 (f 2 Y));have HC:=O (Iw _ _ (x:Int) (y:Int) V Q A (by have:=Qc.o.words;omega) (by have:=Qa.o.words;omega));clear f Q A;refine Jb rfl rfl λK hK=>?_;go_simp;go_wp2_with(go_at_call 90;refine HC.o.mono ?_;rintro e w5 ⟨v5,rfl,an,j⟩)
    obtain⟨k,m,o,_,P,q,r,t,z⟩:=b.o;exact⟨_,_,_,_,_,_,_,_,_,_,_,_,_,_,rfl,O ⟨λh=>(k h).below j,λh=>(m h).below j,λh=>(o h).below j,λ_=>an,λh=>(P h).below j,λh=>(q h).below j,λh=>(r h).below j,λh=>(t h).below j,z⟩,O (g.o.below j)⟩
  . have Q:=(b.o.1 (f 0 Y));have A:=(b.o.2.2.2.1 (f 3 Y));have HC:=O (QZ _ _ (y:Int) ((Int.gcd x y:Nat):Int) V Q A HG.o (by have:=Qa.o.words;omega) (by have:=(Qc.o.gcd Qa.o).words;omega));clear f Q A;refine Jb rfl rfl λK hK=>?_;go_simp;go_wp2_with(go_at_call 123;refine HC.o.mono ?_;rintro e w5 ⟨v5,v6,rfl,an,bj,j⟩)
    obtain⟨k,m,o,M,_,q,r,t,z⟩:=b.o;exact⟨_,_,_,_,_,_,_,_,_,_,_,_,_,_,rfl,O ⟨λh=>(k h).below j,λh=>(m h).below j,λh=>(o h).below j,λh=>(M h).below j,λ_=>⟨v5,v6,rfl,an,bj⟩,λh=>(q h).below j,λh=>(r h).below j,λh=>(t h).below j,z⟩,O (g.o.below j)⟩
  . have Q:=(b.o.2.2.2.2.1 (f 4 Y));clear f;refine Za ?_;exact⟨_,_,_,_,_,_,_,_,_,_,_,_,_,_,rfl,(EE b λ_=>Q),O (g.o)⟩
  . obtain⟨y1,y2,rfl,A,h2⟩:=((Dl b) (f 5 Y));clear f;refine Za ?_;exact⟨_,_,_,_,_,_,_,_,_,_,_,_,_,_,rfl,(D6 b λ_=>A),O (g.o)⟩
  . obtain⟨y1,y2,rfl,A,h2⟩:=((Dl b) (f 5 Y));clear f;refine Za ?_;exact⟨_,_,_,_,_,_,_,_,_,_,_,_,_,_,rfl,(EN b λ_=>h2),O (g.o)⟩
  . obtain⟨y1,y2,rfl,A,h2⟩:=((Dl b) (f 5 Y));clear f;refine Za ?_;exact⟨_,_,_,_,_,_,_,_,_,_,_,_,_,_,rfl,(EQ b),O (g.o)⟩
  . have hf:D 11=false:=DR az S;obtain rfl:=b.o.2.2.2.2.2.2.2.2.2.1.1 S;clear f;refine Za ?_;obtain⟨k,m,o,M,P,q,r,t,z,_,ad⟩:=b.o;exact⟨_,_,_,_,_,_,_,_,_,_,_,_,_,_,rfl,O ⟨λh=>(k h).alloc _,λh=>(m h).alloc _,λh=>(o h).alloc _,λh=>(M h).alloc _,λh=>(P h).alloc _,λh=>(q h).alloc _,λh=>(r h).alloc _,λh=>(t h).alloc _,z,⟨λh=>by simp at h,λ_ _=>⟨_,rfl,rfl⟩,λh=>by simp[hf]at h⟩,ad⟩,O (g.o.fill (i:=3) rfl (.int 0) (EJ _))⟩
  . have hf:D 12=false:=DR az S;obtain rfl:=b.o.2.2.2.2.2.2.2.2.2.2.1.1 S;clear f;refine Za ?_;obtain⟨k,m,o,M,P,q,r,t,z,G9,_,ae⟩:=b.o;exact⟨_,_,_,_,_,_,_,_,_,_,_,_,_,_,rfl,O ⟨λh=>(k h).alloc _,λh=>(m h).alloc _,λh=>(o h).alloc _,λh=>(M h).alloc _,λh=>(P h).alloc _,λh=>(q h).alloc _,λh=>(r h).alloc _,λh=>(t h).alloc _,z,G9,⟨λh=>by simp at h,λ_ _=>⟨_,rfl,rfl⟩,λh=>by simp[hf]at h⟩,ae⟩,O (g.o.fill (i:=4) rfl (.int 0) (EJ _))⟩
  . obtain⟨B,rfl,rfl⟩:=b.o.2.2.2.2.2.2.2.2.2.1.2.1 (f 9 Y) S;have Qb:=f 9 Y;have hv:=((Dq b) (f 6 Y));obtain⟨s1,a1,l1,c1,rfl⟩:=Jk.form2 (show Jk V _ _ from hv);obtain⟨s,a,l,c,n,i⟩:=g.o.int (i:=3) rfl;have e0:=n.c0;have f0:=n.f0;have e1:=n.c1;have f1:=n.f1;clear f;refine Za ?_;obtain⟨k,m,o,M,P,q,r,t,z,_,ad⟩:=b.o;exact⟨_,_,_,_,_,_,_,_,_,_,_,_,_,_,rfl,O ⟨λh=>(k h).set2 n rfl rfl _ _,λh=>(m h).set2 n rfl rfl _ _,λh=>(o h).set2 n rfl rfl _ _,λh=>(M h).set2 n rfl rfl _ _,λh=>(P h).set2 n rfl rfl _ _,λh=>(q h).set2 n rfl rfl _ _,λh=>(r h).set2 n rfl rfl _ _,λh=>(t h).set2 n rfl rfl _ _,z,⟨λh=>by simp[Qb]at h,λ_ h=>by simp at h,λ_=>⟨B,rfl,rfl⟩⟩,ad⟩,O (g.o.putInt (i:=3) rfl hv)⟩
  . obtain⟨B,rfl,rfl⟩:=b.o.2.2.2.2.2.2.2.2.2.2.1.2.1 (f 10 Y) S;have Qb:=f 10 Y;have hv:=((Dw b) (f 7 Y));obtain⟨s1,a1,l1,c1,rfl⟩:=Jk.form2 (show Jk V _ _ from hv);obtain⟨s,a,l,c,n,i⟩:=g.o.int (i:=4) rfl;have e0:=n.c0;have f0:=n.f0;have e1:=n.c1;have f1:=n.f1;clear f;refine Za ?_;obtain⟨k,m,o,M,P,q,r,t,z,G9,_,ae⟩:=b.o;exact⟨_,_,_,_,_,_,_,_,_,_,_,_,_,_,rfl,O ⟨λh=>(k h).set2 n rfl rfl _ _,λh=>(m h).set2 n rfl rfl _ _,λh=>(o h).set2 n rfl rfl _ _,λh=>(M h).set2 n rfl rfl _ _,λh=>(P h).set2 n rfl rfl _ _,λh=>(q h).set2 n rfl rfl _ _,λh=>(r h).set2 n rfl rfl _ _,λh=>(t h).set2 n rfl rfl _ _,z,G9,⟨λh=>by simp[Qb]at h,λ_ h=>by simp at h,λ_=>⟨B,rfl,rfl⟩⟩,ae⟩,O (g.o.putInt (i:=4) rfl hv)⟩
  . obtain rfl:=((Dy b) (f 8 Y));clear f;refine Za ?_;exact⟨_,_,_,_,_,_,_,_,_,_,_,_,_,_,rfl,(Ij (EQ b)),O (g.o)⟩
 rintro D ai V2 X ⟨tm,ta,tb,tc,td,tl,te,tf,tg,ti,tj,tk,U,T,rfl,b,g⟩;obtain⟨B3,rfl,rfl⟩:=b.o.2.2.2.2.2.2.2.2.2.1.2.2 (X 11 DQ);obtain⟨B4,rfl,rfl⟩:=b.o.2.2.2.2.2.2.2.2.2.2.1.2.2 (X 12 DQ);obtain rfl:=Dy b (X 8 DQ);obtain rfl:=b.o.2.2.2.2.2.2.2.2.2.2.2 (X 13 DQ);clear b X M1;have W:Hid (Mem w V2 [some (w.heap.size,.int ((x:Int))),some (w.heap.size+1,.int ((y:Int))),some (w.heap.size+1+1,.int 0),some (B3,.int ((y:Int)/((Int.gcd x y:Nat):Int))),some (B4,.int ((y:Int)%((Int.gcd x y:Nat):Int)))]):=g;clear g;obtain⟨s5,a5,l5,c5,n5,i5⟩:=W.o.int (i:=0) rfl;obtain⟨bn,bt⟩:=n5.cp;obtain⟨s6,a6,l6,c6,n6,i6⟩:=W.o.int (i:=3) rfl;obtain⟨bu,ce⟩:=n6.cp;obtain⟨s7,a7,l7,c7,n7,i7⟩:=W.o.int (i:=2) rfl;obtain⟨Qe,Qd⟩:=n7.cp;obtain⟨Qi,Qh⟩:=n7.fp;have H1:=O (Xo _ _ (x:Int) ((y:Int)/((Int.gcd x y:Nat):Int)) V2 i5 i6 (by have A:=Qc.o.words;have h2:=(Qa.o.div (y:=((Int.gcd x y:Nat):Int))).words;omega));rw[eP]at H1;go_wp2_with(go_at_call 85;refine H1.o.mono ?_;clear H1;rintro e w2 ⟨u2,rfl,bg,hq⟩;obtain⟨bm,bh,bk,bi,rfl⟩:=Jk.form2 bg;clear Qe Qd;obtain⟨Qe,Qd⟩:=(n7.below hq).cp;clear Qi Qh;obtain⟨Qi,Qh⟩:=(n7.below hq).fp)
 have Qk:=Bt W.o.2.2 hq;have Qf:=W.o.ge 2 rfl;exact BA (v:=L #[E bm,C bh bk bi]) (by simp[results,Tryz.results97,go_sem,Qe,Qd]) rfl ⟨_,rfl,bg.box (n7.below hq) rfl rfl,(Qk.setCell (p:=⟨_,0,none⟩) Qf _).setCell (p:=⟨_,1,none⟩) Qf _⟩
def I6(F:Nat->Rat)(n i:Nat)(S:List Rat):Prop:=S.length=n/\∀j,cf S j=if j<i then F j else 0
theorem I6.next{F:Nat->Rat}(h:I6 F n i S)(b:i<n):I6 F n (i+1) (S.set i (F i)):=by
 refine⟨by rw[Cs];exact h.1,λj=>?_⟩;rw[XG _ _ _ _ (by rw[h.1];exact b),h.2 j];by_cases e:j=i
 . rw[BG e,BG J,e]
 . rw[BE e];by_cases a:j<i
   . rw[BG a,BG J]
   . rw[BE a,BE J]
theorem I6.done{F:Nat->Rat}{T:List Rat}(h:I6 F n n S)(b:Jd T=T)(hF:∀j,j<n->cf T j=F j)(a:∀j,n<=j->cf T j=0):Jd S=T:=by
 rw[<-b];refine YH λj=>?_;rw[h.2 j];split
 . exact(hF j (by assumption)).symm
 . exact(a j J).symm
theorem Sr(v vf:N)(ps:List Rat)(f:Rat)(w:I)(h:Jf w v ps)(hf:Jj w vf f)(aw:Sqs ps)(ay:Sq f)(az:∀i,Sq (cf ps i*f)):
 Calls Tryz.prog 98 #[v,vf] w λe w'=>∃u,e=.returned u/\Jf w' u (Dd f ps)/\Bl w w':=by
 have Qq:Tryz.prog.follows .mixedOrders=true:=by kernel_rfl
 obtain⟨x,la,y,rfl⟩:=h.form;obtain⟨s,a,l,c,t,b,k,d,rfl⟩:=Jj.form hf;obtain⟨bg,bc,bf,bh,_⟩:=h.row.forms;have M0:=((((Mem.nil w).push (.cell 25 (C x la y)) (cs:=#[C x la y]) ⟨rfl,rfl⟩).push (.rat f) (cs:=#[E s,C a l c,E t,C b k d]) (Has.alloc (d:=.rat f) hf _)).push (.cell 25 (C none 0 0)) (cs:=#[C none 0 0]) ⟨rfl,rfl⟩);simp only[A1]at M0;obtain⟨V0,af⟩:=ex (((w.alloc (H #[C x la y] 25)).alloc (H #[E s,C a l c,E t,C b k d] 65)).alloc (H #[C none 0 0] 25));have M1:Mem w V0 [some (w.heap.size,.cell 25 (C x la y)),some (w.heap.size+1,.rat f),some (w.heap.size+1+1,.cell 25 (C none 0 0))]:=by rw[<-af];exact M0
 have Qh:=O M1;obtain⟨n,hn⟩:=ex (ps.length:Nat);obtain⟨R,ap⟩:=ex ((n:Int)-1:Int);have Qg:=O (YF (L #[C x la y]) ps V0 (h.below M1.2.2));rw[hn,ap]at Qg;have bi:R+1=(n:Int):=J
 have bj:IntKind.i64.wrap (n:Int)=(n:Int):=by rw[BS];omega
 have Qr:∀W:I,(Instr.makeSlice 22 (B .i64 (n:Int)) (B .i64 (n:Int))).run Tryz.prog W=.ok (C (some ⟨W.heap.size,0,none⟩) n n) (W.alloc (H (Ye n) 65)):=λW=>So n J W;obtain⟨HP,Ql,Qm,HN⟩:=D0 (λ(V:I) (hB:Bl w V)=>h.below hB) aw az (show ps.length=n from hn);have Qd:n<=1099511627776:=J
 have Qj:=O af;have Qo:=O ay;clear h aw az bg bc bf hn ap M0 M1 af bh hf ay;go_enter Tryz.func98,Tryz.ntmps98
 go_upto_region 1 with fail
 rw[Qj.o];have c0:=(Qh.o.cell (i:=0) rfl).1.cell;go_upto_region 2 with(go_at_call 20;refine Qg.o.mono ?_;clear Qg;rintro e w1 ⟨rfl,an⟩)
 have Qe:Mem w (w1.alloc (H (Ye n) 65)) [some (w.heap.size,.cell 25 (C x la y)),some (w.heap.size+1,.rat f),some (w.heap.size+1+1,.cell 25 (C none 0 0)),some (w1.heap.size,.rats (List.replicate n 0))]:=(Qh.o.below an).push (.rats (List.replicate n 0)) (LA _ n);obtain⟨V1,ah⟩:=ex (w1.alloc (H (Ye n) 65));obtain⟨A,ai⟩:=ex (w1.heap.size);rw[ah,ai]at Qe;rw[ah,ai];have Qi:=O Qe;clear Qe ah ai an c0 Qh Qj Qr;go_wp2;go_loopw [13] (λiv wr=>∃(i:Nat) (S:List Rat),i<=n/\iv=B .i64 (i:Int)/\Hid (I6 (λj=>cf ps j*f) n i S)/\Hid (Mem w wr [some (w.heap.size,.cell 25 (C x la y)),some (w.heap.size+1,.rat f),some (w.heap.size+1+1,.cell 25 (C none 0 0)),some (A,.rats S)])) λiv _=>n-(intOf iv).toNat
 case atStart=>exact⟨0,_,AK _,rfl,O ⟨Au,λj=>by rw[JQ,BE J]⟩,Qi⟩
 case round=>
  obtain⟨i,S,hi,rfl,P,HM⟩:=hrel;clear Qi;by_cases aq:i<n
  . have bm:(i:Int)<(n:Int):=J
    have Qk:=O (show i<S.length by rw[P.o.1];exact aq);go_wp2_with fail
    have Qn:=HM.o.drew;refine Jn Qq [[],[],[],[],[2,3],[],[4,5,4],[0,1,0,1,2,3,4,5,6],[7,6,6,0,1,2,3,4,5,6]] (by kernel_rfl) DQ
     (λD ae V=>∃(ta tb tc td te tf tg ti:N),ae={ tmps:=#[L #[C x la y],L #[E s,C a l c,E t,C b k d],F (some ⟨w.heap.size,0,none⟩),F (some ⟨w.heap.size+1,0,none⟩),F (some ⟨w.heap.size+1+1,0,none⟩),C (some ⟨A,0,none⟩) n n,B .i64 ↑i,L #[C x la y],B .i64 R,B .i64 ↑n,C (some ⟨A,0,none⟩) n n,C (some ⟨A,0,none⟩) n n,B .i64 ↑n,B .i64 ↑i,E true,B .i64 ↑i,ta,tb,tc,td,te,tf,tg,ti,u24,G,G],defers:=[] }/\Hid ((D 0=true->ta=C (some ⟨A,0,none⟩) n n)/\(D 1=true->tb=B .i64 (i:Int))/\(D 2=true->tc=L #[C x la y])/\(D 3=true->td=B .i64 (i:Int))/\(D 4=true->D 8=false->Jj V te (cf ps i))/\(D 5=true->D 8=false->Jj V tf f)/\(D 6=true->D 8=false->Jj V tg (cf ps i*f))/\(D 7=true->ti=F (some ⟨A,i*4,none⟩)))/\Hid ((D 8=false->Mem w V [some (w.heap.size,.cell 25 (C x la y)),some (w.heap.size+1,.rat f),some (w.heap.size+1+1,.cell 25 (C none 0 0)),some (A,.rats S)])/\(D 8=true->Mem w V [some (w.heap.size,.cell 25 (C x la y)),some (w.heap.size+1,.rat f),some (w.heap.size+1+1,.cell 25 (C none 0 0)),some (A,.rats (S.set i (cf ps i*f)))])))
     (E8 ⟨rfl,O Y,O ⟨λ_=>Qn,Y⟩⟩) ?step1 ?fin1
    case step1=>
     rintro D ae V i ds ad hi o Q ⟨ta,tb,tc,td,te,tf,tg,ti,rfl,g,m⟩;have bk:i<9:=(Ad.1 hi).1;obtain rfl|rfl|rfl|rfl|rfl|rfl|rfl|rfl|rfl:=TQ i J
     all_goals
      simp only[Af,Ae,Ah]at hi;subst hi
     . clear o;refine DV ?_;exact⟨(Dh g),m⟩
     . clear o;refine DV ?_;exact⟨(Dn g),m⟩
     . have z:=m.o.1 (DR ad Q);have R:=(z.cell (i:=0) rfl).1.cell;clear o;refine DV ?_;exact⟨(Df g),m⟩
     . clear o;refine DV ?_;exact⟨(Dj g),m⟩
     . have z:=m.o.1 (DR ad Q);obtain rfl:=g.o.2.2.1 (o 2 Y);obtain rfl:=g.o.2.2.2.1 (o 3 Y);clear o;have X:=O (KI _ ps (i:Int) V (HP.o V z.2.2));rw[KY]at X;refine Jb rfl rfl λK hK=>?_;go_simp;go_wp2_with(go_at_call 58;refine X.o.mono ?_;rintro e w5 ⟨v5,rfl,ak,q⟩)
       obtain⟨G0,G1,_,_,_,G5,G6,G7⟩:=g.o;exact E8 ⟨rfl,O ⟨G0,G1,λ_=>rfl,λ_=>rfl,λ_ _=>ak,λh M=>(G5 h M).below q,λh M=>(G6 h M).below q,G7⟩,O ⟨λh=>(m.o.1 h).below q,λh=>(m.o.2 h).below q⟩⟩
     . have z:=m.o.1 (DR ad Q);obtain⟨x1,x2,x3,x4,x5,x6,x7,x8,n,r,_,_⟩:=z.rat (i:=1) rfl;obtain⟨R,e1,e2,e3⟩:=n.cq;clear o;refine DV ?_;exact⟨(EE g λ_ _=>r),m⟩
     . have Qa:D 8=false:=DR ad Q;have U:=g.o.2.2.2.2.1 (o 4 Y) Qa;have h1:=Dl g (o 5 Y) Qa;clear o;have X:=O (Kz _ _ (cf ps i) f V U h1 (Ql.o.at i) Qo.o);clear U h1;refine Jb rfl rfl λK hK=>?_;go_simp;go_wp2_with(go_at_call 52;refine X.o.mono ?_;rintro e w5 ⟨v5,rfl,ak,q⟩)
       obtain⟨G0,G1,G2,G3,G4,G5,_,G7⟩:=g.o;exact E8 ⟨rfl,O ⟨G0,G1,G2,G3,λh M=>(G4 h M).below q,λh M=>(G5 h M).below q,λ_ _=>ak,G7⟩,O ⟨λh=>(m.o.1 h).below q,λh=>(m.o.2 h).below q⟩⟩
     . obtain rfl:=g.o.1 (o 0 Y);obtain rfl:=g.o.2.1 (o 1 Y);clear o;refine DV ?_;exact⟨(Ll (Dn (Dh g))),m⟩
     . have z:=m.o.1 Q;have U:=Dq g (o 6 Y) Q;obtain rfl:=g.o.2.2.2.2.2.2.2 (o 7 Y);have hE:=z.rats (i:=3) rfl;obtain⟨xa,xb,xc,xd,R,e1,e2,e3,_⟩:=hE.at Qk.o;have f0:=hE.frozen (i*4);have f1:=hE.frozen (i*4+1);have f2:=hE.frozen (i*4+2);have f3:=hE.frozen (i*4+3);obtain⟨s9,a9,l9,c9,t9,b9,k9,d9,rfl⟩:=Jj.form U;clear o;refine DV ?_;exact⟨O ⟨g.o.1,g.o.2.1,g.o.2.2.1,g.o.2.2.2.1,λ_ h=>by simp at h,λ_ h=>by simp at h,λ_ h=>by simp at h,λ_=>rfl⟩,O ⟨λh=>by simp at h,λ_=>z.putRats (i:=3) rfl Qk.o U⟩⟩
    case fin1=>
     rintro D ae V am ⟨ta,tb,tc,td,te,tf,tg,ti,rfl,g,m⟩;have HO:=O (m.o.2 (am 8 DQ));clear g m am;go_wp2_with fail
     go_roundw
     case rel=>exact⟨i+1,_,J,by go_num,O (P.o.next aq),HO⟩
     case measure=>simp[intOf];omega
  . obtain rfl:i=n:=J
    have hE:=HM.o.rats (i:=3) rfl;have Qc:=hE.row (n:=i) (cap:=i) (by rw[P.o.1];exact Aa _) (Aa _) J Qd;rw[Ac (by rw[P.o.1];exact Aa _)]at Qc;have Qf:=O (RK _ S wr Qc (Sqs.of λj=>by
     rw[P.o.2 j];split
     . exact Qm.o j
     . exact Ix))
    rw[P.o.done (T:=Dd f ps) (JZ _ _) (λj hj=>Xa _ _ _) λj hj=>by rw[Xa,J1 (by rw[HN.o];exact hj),CE]]at Qf;clear hE Qc;go_wp2_with(go_at_call 59;refine Qf.o.mono ?_;clear Qf;rintro e w5 ⟨u5,rfl,aj,_,q⟩;obtain⟨a7,l7,c7,rfl⟩:=aj.form;have n5:=boxed_below (HM.o.cell (i:=2) rfl).1 q;have x0:=n5.cell;have x1:=n5.frozen;have Qs:=O (FZ n5 (C a7 l7 c7) aj.row);have Qp:=O ((Bt HM.o.2.2 q).setCell (p:=⟨w.heap.size+1+1,0,none⟩) (by show w.heap.size<=w.heap.size+1+1;omega) (C a7 l7 c7));clear aj q n5)
    exact BA (v:=L #[C a7 l7 c7]) (by simp[results,Tryz.results98,go_sem,x0]) rfl ⟨_,rfl,⟨_,rfl,Qs.o⟩,Qp.o⟩
theorem eU(p:List Rat)(n:Nat):((Int.gcd ((Y5 p n:Nat):Int) (cf p n).num:Nat):Int)=((Y5 p (n+1):Nat):Int):=rfl
theorem eV(p:List Rat)(n:Nat):((Nat.lcm (Xj p n) (cf p n).den:Nat):Int)=((Xj p (n+1):Nat):Int):=rfl
theorem Od(D:Int)(M:Nat)(v:N)(ps:List Rat)(w:I)(h:Jf w v ps)(ak:Jd ps=ps)(hD:D≠0)(af:Sm M D)(aj:ED D M ps)(hM:M<=1000000000):
 Calls Tryz.prog 56 #[v] w λe w'=>∃u,e=.returned u/\Jf w' u (YY ps)/\Bl w w':=by
 have Qe:Tryz.prog.follows .mixedOrders=true:=by kernel_rfl
 obtain⟨m,la,o,rfl⟩:=h.form;obtain⟨bi,bg,bh,bj,_⟩:=h.row.forms;have Qa:∀i,Da M (cf ps i):=λi=>(aj i).smq hD af;obtain⟨HG,HL,Qb⟩:=Dg (λi=>Sok.of (Sc (λj=>(Qa j).1) i) J:∀i,Sok ((Y5 ps i:Nat):Int)) (λi=>Sok.of (Sb hD af aj i) J:∀i,Sok ((Xj ps i:Nat):Int)) (show Sqs ps from Sqs.of λi=>Sq.of (Qa i) hM);have HF:=O (show ps≠[]->Sq ((Xj ps ps.length:Rat)/(Y5 ps ps.length:Rat))/\∀i,Sq (cf ps i*((Xj ps ps.length:Rat)/(Y5 ps ps.length:Rat)))from λk=>by
  have h1:=Sd ak k (aj.ln hD);refine⟨?_,λi=>?_⟩
  . have h2:((Xj ps ps.length:Rat)/(Y5 ps ps.length:Rat))=Rat.divInt ((Xj ps ps.length:Nat):Int) ((Y5 ps ps.length:Nat):Int):=by rw[CV,Cu,Cu]
    rw[h2];exact Sq.of (Da.divInt (Int.natCast_ne_zero.2 (Me ak k)) (Sb hD af aj _) (Sc (λj=>(Qa j).1) _)) hM
  . obtain⟨z,h3,h4⟩:=h1 i;have h5:cf ps i*((Xj ps ps.length:Rat)/(Y5 ps ps.length:Rat))=(z:Rat):=by rw[<-h4];unfold YY;rw[Xa]
    rw[h5];have h6:1<=M:=by
     by_cases h7:1<=M
     . exact h7
     . exfalso
       obtain rfl:M=0:=J
       unfold Sm at af
       have:D.natAbs≠0:=Int.natAbs_ne_zero.2 hD
       simp at af;omega
    exact Sq.of ((Md (D:=1) DQ h3 (by rw[show((1:Int):Rat)=1 from rfl,Rat.mul_one])).smq DQ (Sm.one M h6)) hM)
 have Qm:=O (λk=>Me ak k:ps≠[]->Y5 ps ps.length≠0);have M0:=(((Mem.nil w).push (.cell 25 (C m la o)) (cs:=#[C m la o]) ⟨rfl,rfl⟩).push (.cell 25 (C none 0 0)) (cs:=#[C none 0 0]) ⟨rfl,rfl⟩).push (.int 0) (cs:=#[E false,C none 0 0]) (EJ _);simp only[A1]at M0;obtain⟨W0,an⟩:=ex (((w.alloc (H #[C m la o] 25)).alloc (H #[C none 0 0] 25)).alloc (H #[E false,C none 0 0] 63));have Qd:=O an;have M1:Hid (Mem w W0 [some (w.heap.size,.cell 25 (C m la o)),some (w.heap.size+1,.cell 25 (C none 0 0)),some (w.heap.size+1+1,.int (((Y5 ps 0:Nat):Int)))]):=O (by rw[<-an];exact M0);obtain⟨n,hn⟩:=ex (ps.length:Nat);obtain⟨U,bf⟩:=ex ((n:Int)-1:Int);have Qc:=O λ(V:I) (hB:Bl w V)=>YF (L #[C m la o]) ps V (h.below hB);rw[hn,bf]at Qc;have bu:U+1=(n:Int):=J
 have ce:IntKind.i64.wrap (n:Int)=(n:Int):=by rw[BS];omega
 have HP:=O λ(V:I) (hB:Bl w V)=>h.below hB;have HN:=O (show ps.length=n from hn);have cj:n<=1099511627776:=J
 have Qf:=O λ(V:I)=>KA 1 J J V;clear h bi bg bh hn bf M0 an bj ak hD af aj hM Qa;go_enter Tryz.func56,Tryz.ntmps56
 go_upto_region 2 with fail
 rw[Qd.o];clear Qd;go_upto_region 3 with(go_at_call 95;refine(Qf.o _).mono ?_;clear Qf;rintro e w1 ⟨u1,rfl,aw,az⟩;obtain⟨s1,a1,l1,c1,rfl⟩:=Jk.form2 aw)
 obtain⟨V1,hV⟩:=ex (w1.alloc (H #[E s1,C a1 l1 c1] 63));obtain⟨t,ae⟩:=ex (w1.heap.size);have d:Mem w (w1.alloc (H #[E s1,C a1 l1 c1] 63)) [some (w.heap.size,.cell 25 (C m la o)),some (w.heap.size+1,.cell 25 (C none 0 0)),some (w.heap.size+1+1,.int (((Y5 ps 0:Nat):Int))),some (w1.heap.size,.int (((Xj ps 0:Nat):Int)))]:=Mem.push (M1.o.below az) (.int (((Xj ps 0:Nat):Int))) aw;rw[hV,ae]at d;rw[hV];rw[ae];have M2:Hid (Mem w V1 [some (w.heap.size,.cell 25 (C m la o)),some (w.heap.size+1,.cell 25 (C none 0 0)),some (w.heap.size+1+1,.int (((Y5 ps 0:Nat):Int))),some (t,.int (((Xj ps 0:Nat):Int)))]):=O (d);clear M1;clear d hV ae;clear aw az;have c0:=(M2.o.cell (i:=0) rfl).1.cell;go_upto_region 4 with(go_at_call 20;refine(Qc.o _ M2.o.2.2).mono ?_;clear Qc;rintro e w2 ⟨rfl,bc⟩)
 have ML:Hid (Mem w w2 [some (w.heap.size,.cell 25 (C m la o)),some (w.heap.size+1,.cell 25 (C none 0 0)),some (w.heap.size+1+1,.int (((Y5 ps 0:Nat):Int))),some (t,.int (((Xj ps 0:Nat):Int)))]):=O (M2.o.below bc);clear c0 bc M2;go_loopw [12] (λiv wr=>∃i:Nat,i<=n/\iv=B .i64 (i:Int)/\Hid (Mem w wr [some (w.heap.size,.cell 25 (C m la o)),some (w.heap.size+1,.cell 25 (C none 0 0)),some (w.heap.size+1+1,.int (((Y5 ps i:Nat):Int))),some (t,.int (((Xj ps i:Nat):Int)))])) λiv _=>n-(intOf iv).toNat
 case atStart=>exact⟨0,AK _,rfl,ML⟩
 case round=>
  obtain⟨i,X,rfl,M3⟩:=hrel;clear ML;by_cases cg:i<n
  . have ci:(i:Int)<(n:Int):=J
    go_upto_region 6 with fail
    refine Jn Qe [[],[],[],[1,2],[3,3],[0,4,4],[5,5,0,1,2,3,4,5]] (by kernel_rfl) DQ
     (λD ad V=>∃(ta tb tc td te tf:N) (y2:Option (Nat × Dat)),ad={ tmps:=#[L #[C m la o],F (some ⟨w.heap.size,0,none⟩),F (some ⟨w.heap.size+1,0,none⟩),F (some ⟨w.heap.size+1+1,0,none⟩),F (some ⟨t,0,none⟩),B .i64 ↑i,G,G,L #[E s1,C a1 l1 c1],L #[C m la o],B .i64 U,B .i64 ↑n,B .i64 ↑i,E true,B .i64 ↑i,ta,tb,tc,td,te,tf,u21,u22,u23,u24,u25,u26,u27,G,G,G,G,G,G,G,G,G,G,G,G],defers:=[] }/\Hid ((D 0=true->Has V ta (.int (((Y5 ps i:Nat):Int))))/\(D 1=true->tb=L #[C m la o])/\(D 2=true->tc=Value.int IntKind.i64 ↑i)/\(D 3=true->Has V td (.rat (cf ps i)))/\(D 4=true->Has V te (.int ((cf ps i).num)))/\(D 5=true->Has V tf (.int (((Y5 ps (i+1):Nat):Int))))/\((D 6=false->y2=some (w.heap.size+1+1,.int (((Y5 ps i:Nat):Int))))/\(D 6=true->y2=some (w.heap.size+1+1,.int (((Y5 ps (i+1):Nat):Int))))))/\Hid (Mem w V [some (w.heap.size,.cell 25 (C m la o)),some (w.heap.size+1,.cell 25 (C none 0 0)),y2,some (t,.int (((Xj ps i:Nat):Int)))]))
     ⟨_,_,_,_,_,_,_,rfl,O ⟨Y,Y,Y,Y,Y,Y,⟨λ_=>rfl,Y⟩⟩,O (M3.o).drew⟩ ?step2 ?fin2
    case step2=>
     rintro D ad V i ds ap X g ah ⟨ta,tb,tc,td,te,tf,y2,rfl,b,d⟩;have Qj:i<7:=(Ad.1 X).1;obtain rfl|rfl|rfl|rfl|rfl|rfl|rfl:=IX i J
     all_goals
      simp only[Af,Ae,Ah]at X;subst X
     . have hf:D 6=false:=DR ap ah;obtain rfl:=Dq b hf;clear g;obtain⟨s,a,l,c,n,i⟩:=d.o.int (i:=2) rfl;obtain⟨U,e1⟩:=n.cp;refine Za ?_;exact⟨_,_,_,_,_,_,_,rfl,(Lk (Dh b λ_=>i) ⟨λ_=>rfl,λh=>by simp[hf]at h⟩),O (d.o)⟩
     . have U:=(d.o.cell (i:=0) rfl).1.cell;clear g;refine Za ?_;exact⟨_,_,_,_,_,_,_,rfl,(Dn b),O (d.o)⟩
     . clear g;refine Za ?_;exact⟨_,_,_,_,_,_,_,rfl,(Df b),O (d.o)⟩
     . obtain rfl:=(b.o.2.1 (g 1 Y));obtain rfl:=(b.o.2.2.1 (g 2 Y));have r:=O (KI _ ps (i:Int) V (HP.o V d.o.2.2));rw[KY]at r;clear g;refine Jb rfl rfl λK hK=>?_;go_simp;go_wp2_with(go_at_call 58;refine r.o.mono ?_;rintro e w5 ⟨v5,rfl,T,f⟩)
       obtain⟨q,_,_,_,Q,R,S⟩:=b.o;exact⟨_,_,_,_,_,_,_,rfl,O ⟨λh=>(q h).below f,λ_=>rfl,λ_=>rfl,λ_=>T,λh=>(Q h).below f,λh=>(R h).below f,S⟩,O (d.o.below f)⟩
     . have k:=(b.o.2.2.2.1 (g 3 Y));have r:=O (dA _ (cf ps i) V k);clear g k;refine Jb rfl rfl λK hK=>?_;go_simp;go_wp2_with(go_at_call 96;refine r.o.mono ?_;rintro e w5 ⟨v5,rfl,T,f⟩)
       obtain⟨q,y,A,P,_,R,S⟩:=b.o;exact⟨_,_,_,_,_,_,_,rfl,O ⟨λh=>(q h).below f,y,A,λh=>(P h).below f,λ_=>T,λh=>(R h).below f,S⟩,O (d.o.below f)⟩
     . have k:=(b.o.1 (g 0 Y));have h1:=(b.o.2.2.2.2.1 (g 4 Y));have r:=O (Iw _ _ ((Y5 ps i:Nat):Int) (cf ps i).num V k h1 (by have:=(HG.o i).words;omega) (by have:=(Qb.o.at i).num.words;omega));rw[eU]at r;clear g k h1;refine Jb rfl rfl λK hK=>?_;go_simp;go_wp2_with(go_at_call 90;refine r.o.mono ?_;rintro e w5 ⟨v5,rfl,T,f⟩)
       obtain⟨q,y,A,P,Q,_,S⟩:=b.o;exact⟨_,_,_,_,_,_,_,rfl,O ⟨λh=>(q h).below f,y,A,λh=>(P h).below f,λh=>(Q h).below f,λ_=>T,S⟩,O (d.o.below f)⟩
     . obtain rfl:=Dq b ah;have hv:=((Dl b) (g 5 Y));obtain⟨s1,a1,l1,c1,rfl⟩:=Jk.form2 (show Jk V _ _ from hv);obtain⟨s,a,l,c,n,i⟩:=d.o.int (i:=2) rfl;have U:=n.c0;have f0:=n.f0;have e1:=n.c1;have f1:=n.f1;clear g;refine Za ?_;obtain⟨q,y,A,P,Q,R,_⟩:=b.o;exact⟨_,_,_,_,_,_,_,rfl,O ⟨λh=>(q h).set2 n rfl rfl _ _,y,A,λh=>(P h).set2 n rfl rfl _ _,λh=>(Q h).set2 n rfl rfl _ _,λh=>(R h).set2 n rfl rfl _ _,⟨λh=>by simp at h,λ_=>rfl⟩⟩,O (d.o.putInt (i:=2) rfl hv)⟩
    rintro D ad V3 W ⟨ta,tb,tc,td,te,tf,y2,rfl,b,d⟩;obtain rfl:=b.o.2.2.2.2.2.2.2 (W 6 DQ);obtain rfl:=b.o.2.1 (W 1 DQ);obtain rfl:=b.o.2.2.1 (W 2 DQ);clear b W M3;have M4:Hid (Mem w V3 [some (w.heap.size,.cell 25 (C m la o)),some (w.heap.size+1,.cell 25 (C none 0 0)),some (w.heap.size+1+1,.int (((Y5 ps (i+1):Nat):Int))),some (t,.int (((Xj ps i:Nat):Int)))]):=d;clear d;go_upto_region 7 with fail
    refine Jn Qe [[],[],[],[1,2],[3,3],[0,4,4],[5,5,0,1,2,3,4,5]] (by kernel_rfl) DQ
     (λD ad V=>∃(tg ti tj tk tl tm:N) (y3:Option (Nat × Dat)),ad={ tmps:=#[L #[C m la o],F (some ⟨w.heap.size,0,none⟩),F (some ⟨w.heap.size+1,0,none⟩),F (some ⟨w.heap.size+1+1,0,none⟩),F (some ⟨t,0,none⟩),B .i64 ↑i,G,G,L #[E s1,C a1 l1 c1],L #[C m la o],B .i64 U,B .i64 ↑n,B .i64 ↑i,E true,B .i64 ↑i,ta,L #[C m la o],B .i64 ↑i,td,te,tf,tg,ti,tj,tk,tl,tm,u27,G,G,G,G,G,G,G,G,G,G,G,G],defers:=[] }/\Hid ((D 0=true->Has V tg (.int (((Xj ps i:Nat):Int))))/\(D 1=true->ti=L #[C m la o])/\(D 2=true->tj=Value.int IntKind.i64 ↑i)/\(D 3=true->Has V tk (.rat (cf ps i)))/\(D 4=true->Has V tl (.int (((cf ps i).den:Int))))/\(D 5=true->Has V tm (.int (((Xj ps (i+1):Nat):Int))))/\((D 6=false->y3=some (t,.int (((Xj ps i:Nat):Int))))/\(D 6=true->y3=some (t,.int (((Xj ps (i+1):Nat):Int))))))/\Hid (Mem w V [some (w.heap.size,.cell 25 (C m la o)),some (w.heap.size+1,.cell 25 (C none 0 0)),some (w.heap.size+1+1,.int (((Y5 ps (i+1):Nat):Int))),y3]))
     ⟨_,_,_,_,_,_,_,rfl,O ⟨Y,Y,Y,Y,Y,Y,⟨λ_=>rfl,Y⟩⟩,O (M4.o).drew⟩ ?step4 ?fin4
    case step4=>
     rintro D ad V i ds ap X g ah ⟨tg,ti,tj,tk,tl,tm,y3,rfl,b,d⟩;have Qj:i<7:=(Ad.1 X).1;obtain rfl|rfl|rfl|rfl|rfl|rfl|rfl:=IX i J
     all_goals
      simp only[Af,Ae,Ah]at X;subst X
     . have hf:D 6=false:=DR ap ah;obtain rfl:=Dq b hf;clear g;obtain⟨s,a,l,c,n,i⟩:=d.o.int (i:=3) rfl;obtain⟨U,e1⟩:=n.cp;refine Za ?_;exact⟨_,_,_,_,_,_,_,rfl,(Lk (Dh b λ_=>i) ⟨λ_=>rfl,λh=>by simp[hf]at h⟩),O (d.o)⟩
     . have U:=(d.o.cell (i:=0) rfl).1.cell;clear g;refine Za ?_;exact⟨_,_,_,_,_,_,_,rfl,(Dn b),O (d.o)⟩
     . clear g;refine Za ?_;exact⟨_,_,_,_,_,_,_,rfl,(Df b),O (d.o)⟩
     . obtain rfl:=(b.o.2.1 (g 1 Y));obtain rfl:=(b.o.2.2.1 (g 2 Y));have r:=O (KI _ ps (i:Int) V (HP.o V d.o.2.2));rw[KY]at r;clear g;refine Jb rfl rfl λK hK=>?_;go_simp;go_wp2_with(go_at_call 58;refine r.o.mono ?_;rintro e w5 ⟨v5,rfl,T,f⟩)
       obtain⟨q,_,_,_,Q,R,S⟩:=b.o;exact⟨_,_,_,_,_,_,_,rfl,O ⟨λh=>(q h).below f,λ_=>rfl,λ_=>rfl,λ_=>T,λh=>(Q h).below f,λh=>(R h).below f,S⟩,O (d.o.below f)⟩
     . have k:=(b.o.2.2.2.1 (g 3 Y));have r:=O (F7 _ (cf ps i) V k);clear g k;refine Jb rfl rfl λK hK=>?_;go_simp;go_wp2_with(go_at_call 86;refine r.o.mono ?_;rintro e w5 ⟨v5,rfl,T,f⟩)
       obtain⟨q,y,A,P,_,R,S⟩:=b.o;exact⟨_,_,_,_,_,_,_,rfl,O ⟨λh=>(q h).below f,y,A,λh=>(P h).below f,λ_=>T,λh=>(R h).below f,S⟩,O (d.o.below f)⟩
     . have k:=(b.o.1 (g 0 Y));have h1:=(b.o.2.2.2.2.1 (g 4 Y));have r:=O (eT _ _ (Xj ps i) (cf ps i).den V k h1 (SX ps i) (HL.o i) (Qb.o.at i).den);rw[eV]at r;clear g k h1;refine Jb rfl rfl λK hK=>?_;go_simp;go_wp2_with(go_at_call 97;refine r.o.mono ?_;rintro e w5 ⟨v5,rfl,T,f⟩)
       obtain⟨q,y,A,P,Q,_,S⟩:=b.o;exact⟨_,_,_,_,_,_,_,rfl,O ⟨λh=>(q h).below f,y,A,λh=>(P h).below f,λh=>(Q h).below f,λ_=>T,S⟩,O (d.o.below f)⟩
     . obtain rfl:=Dq b ah;have hv:=((Dl b) (g 5 Y));obtain⟨s1,a1,l1,c1,rfl⟩:=Jk.form2 (show Jk V _ _ from hv);obtain⟨s,a,l,c,n,i⟩:=d.o.int (i:=3) rfl;have U:=n.c0;have f0:=n.f0;have e1:=n.c1;have f1:=n.f1;clear g;refine Za ?_;obtain⟨q,y,A,P,Q,R,_⟩:=b.o;exact⟨_,_,_,_,_,_,_,rfl,O ⟨λh=>(q h).set2 n rfl rfl _ _,y,A,λh=>(P h).set2 n rfl rfl _ _,λh=>(Q h).set2 n rfl rfl _ _,λh=>(R h).set2 n rfl rfl _ _,⟨λh=>by simp at h,λ_=>rfl⟩⟩,O (d.o.putInt (i:=3) rfl hv)⟩
    rintro D ad V5 W ⟨tg,ti,tj,tk,tl,tm,y3,rfl,b,d⟩;obtain rfl:=b.o.2.2.2.2.2.2.2 (W 6 DQ);obtain rfl:=b.o.2.1 (W 1 DQ);obtain rfl:=b.o.2.2.1 (W 2 DQ);clear b W M4;have M5:Hid (Mem w V5 [some (w.heap.size,.cell 25 (C m la o)),some (w.heap.size+1,.cell 25 (C none 0 0)),some (w.heap.size+1+1,.int (((Y5 ps (i+1):Nat):Int))),some (t,.int (((Xj ps (i+1):Nat):Int)))]):=d;clear d;go_wp2_with fail
    go_roundw
    case rel=>exact⟨i+1,J,by go_num,M5⟩
    case measure=>simp[intOf];omega
  . obtain rfl:i=n:=J
    obtain⟨s6,a6,l6,c6,n6,i6⟩:=M3.o.int (i:=2) rfl;obtain⟨Ql,Qo⟩:=n6.cp;obtain⟨s7,a7,l7,c7,n7,i7⟩:=M3.o.int (i:=3) rfl;obtain⟨Qh,Qp⟩:=n7.cp;have H1:=O (L5 _ _ ((Xj ps i:Nat):Int) ((Y5 ps i:Nat):Int) wr i7 i6 (HL.o i) (HG.o i));have Qg:=(M3.o.cell (i:=1) rfl).1;obtain⟨r9,aq⟩:=ex (Rat.divInt ((Xj ps i:Nat):Int) ((Y5 ps i:Nat):Int));rw[aq]at H1;have Qi:=O aq;clear aq;by_cases k:ps=[]
    . have HB:=O (show decide (((Y5 ps i:Nat):Int)≠0)=false by rw[<-HN.o,k];decide);rw[HB.o]at H1;have HE:=O (show YY ps=[]by rw[k];rfl);clear k HB;go_wp2_with(go_at_call 84;refine H1.o.mono ?_;clear H1;rintro e w4 ⟨u4,rfl,am,ai⟩;obtain⟨s9,a9,l9,c9,t9,b9,k9,d9,rfl⟩:=Jj.form am;have n5:=boxed_below (boxed_below Qg ai) (Ba w4 (H #[E s9,C a9 l9 c9,E t9,C b9 k9 d9] 65));have x0:=n5.cell;have x1:=n5.frozen)
      rw[HE.o];exact BA (v:=L #[C none 0 0]) (by simp[results,Tryz.results56,go_sem,x0]) rfl ⟨_,rfl,Sp _,((Bt M3.o.2.2 ai).alloc (by have:=M3.o.2.2.size;have:=ai.size;omega) _).setCell (p:=⟨w.heap.size+1,0,none⟩) (by show w.heap.size<=w.heap.size+1;omega) _⟩
    . have HB:=O (show decide (((Y5 ps i:Nat):Int)≠0)=true by
       refine BK ?_;rw[<-HN.o];exact Int.natCast_ne_zero.2 (Qm.o k))
      rw[HB.o]at H1;have HE:=O (show r9=(Xj ps ps.length:Rat)/(Y5 ps ps.length:Rat)by rw[<-Qi.o,CV,Cu,Cu,HN.o]);have HT:=O (show Dd r9 ps=YY ps by rw[HE.o];rfl);have HS:=O (show Sq r9/\∀j,Sq (cf ps j*r9)by rw[HE.o];exact HF.o k);clear k HB;have H2:=O λ(V:I) (hB:Bl w V) (x:N) (hx:Jj V x r9)=>Sr (L #[C m la o]) x ps r9 V (HP.o V hB) hx Qb.o HS.o.1 HS.o.2;rw[HT.o]at H2;go_upto_region 12 with(go_at_call 84;refine H1.o.mono ?_;clear H1;rintro e w4 ⟨u4,rfl,am,ai⟩;obtain⟨s9,a9,l9,c9,t9,b9,k9,d9,rfl⟩:=Jj.form am)
      clear Ql Qo Qh Qp;obtain⟨V8,hV⟩:=ex (w4.alloc (H #[E s9,C a9 l9 c9,E t9,C b9 k9 d9] 65));obtain⟨B8,ae⟩:=ex (w4.heap.size);have d:Mem w (w4.alloc (H #[E s9,C a9 l9 c9,E t9,C b9 k9 d9] 65)) [some (w.heap.size,.cell 25 (C m la o)),some (w.heap.size+1,.cell 25 (C none 0 0)),some (w.heap.size+1+1,.int (((Y5 ps i:Nat):Int))),some (t,.int (((Xj ps i:Nat):Int))),some (w4.heap.size,.rat r9)]:=Mem.push (M3.o.below ai) (.rat r9) am;rw[hV,ae]at d;rw[hV];rw[ae];have M4:Hid (Mem w V8 [some (w.heap.size,.cell 25 (C m la o)),some (w.heap.size+1,.cell 25 (C none 0 0)),some (w.heap.size+1+1,.int (((Y5 ps i:Nat):Int))),some (t,.int (((Xj ps i:Nat):Int))),some (B8,.rat r9)]):=O (d);clear M3;clear d hV ae;obtain⟨s9,a9,l9,c9,t9,b9,k9,d9,n9,r9,i9,j9⟩:=M4.o.rat (i:=4) rfl;obtain⟨bk,bm,bn,bt⟩:=n9.cq;have c0:=(M4.o.cell (i:=0) rfl).1.cell;have n1:=(M4.o.cell (i:=1) rfl).1;have HQ:=O M4.o.2.2;go_wp2_with(go_at_call 98;refine(H2.o _ HQ.o _ r9).mono ?_;clear H2;rintro e w5 ⟨u5,rfl,ay,f⟩;obtain⟨a7,l7,c7,rfl⟩:=ay.form;have n5:=boxed_below n1 f;have x0:=n5.cell;have x1:=n5.frozen;have Qn:=O (LE n5 (x:=C a7 l7 c7) ay);have Qk:=O ((Bt HQ.o f).setCell (p:=⟨w.heap.size+1,0,none⟩) (by show w.heap.size<=w.heap.size+1;omega) (C a7 l7 c7));clear ay f n5)
      exact BA (v:=L #[C a7 l7 c7]) (by simp[results,Tryz.results56,go_sem,x0]) rfl ⟨_,rfl,Qn.o,Qk.o⟩
