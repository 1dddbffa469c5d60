import Derived.Test.YteldjhhjnchdeaaGreatDoorU43
open Go.Value renaming slice->C,bool->E,pointer->F,int->B
open Go.Obj renaming cells->G
open Go renaming World->H,Value->I
set_option maxRecDepth 100000
set_option maxHeartbeats 16000000
namespace Go.Proofs.YteldjhhjnchdeaaGreatDoor
section
open Go.RowKit Go.Shelf
attribute [local go_sem] Oper.semAt_some
def lenOf:I->Nat|C _ l _=>l|_=>0
def Lq(w V:H)(a b:I)(Q R:List Rat):Prop:=RowK false V a Q/\RowK false V b R/\Bl w V
theorem Lq.below{w V V':H}{b c:I}{Q R:List Rat}(h:Lq w V b c Q R)(a:Bl V V'):Lq w V' b c Q R:=⟨h.1.below a,h.2.1.below a,Bt h.2.2 a⟩
def Lr(w wr V:H)(a b:I)(Q R:List Rat):Prop:=Lq w V a b Q R/\Bl wr V
theorem Lr.below{w wr V V':H}{b c:I}{Q R:List Rat}(h:Lr w wr V b c Q R)(a:Bl V V'):Lr w wr V' b c Q R:=⟨h.1.below a,Bt h.2 a⟩
def Ia(S:Nat->List Rat->List Rat->Prop)(la:Nat)(ps qs R Q:List Rat)(k:Nat):Prop:=
 Jc R=R/\Jc Q=Q/\k+R.length<=la/\Q.length<=la/\(∀x,ev ps x=ev qs x*ev Q x+ev R x)/\(∀i,i+qs.length<=R.length->cf Q i=0)/\S k R Q
structure DivS(A la:Nat)(S:Nat->List Rat->List Rat->Prop)(qs:List Rat):Prop where
 next:∀(k:Nat) (R Q:List Rat) (n:Nat) (a:Rat),S k R Q->(∀i,i+qs.length<=R.length->cf Q i=0)->qs.length<=R.length->n=R.length-qs.length->a=cf R (R.length-1)/cf qs (qs.length-1)->
  (∀i,cf (JP R (JB (Jc (Dn n [a])) qs)) i=cf R i-(if n<=i then a*cf qs (i-n)else 0))->(∀i,cf (XV Q (Jc (Dn n [a]))) i=if i=n then a else cf Q i)->S (k+1) (JP R (JB (Jc (Dn n [a])) qs)) (XV Q (Jc (Dn n [a])))
 size:∀(k:Nat) (R Q:List Rat),k<=la->S k R Q->DZ R/\DZ Q/\∃z,z+(2*A+1)<=1000000/\∀i,Dd z (cf R i)
variable{ps qs:List Rat}{S:Nat->List Rat->List Rat->Prop}
theorem Ia.start(a:Jc ps=ps)(h:S 0 ps []):Ia S ps.length ps qs ps [] 0:=by
 refine⟨a,rfl,O,Y,λx=>?_,λi _=>YI i,h⟩;show _=ev qs x*0+_;grind
theorem Ia.next{A la:Nat}{S:Nat->List Rat->List Rat->Prop}{ps qs R Q:List Rat}{k n:Nat}{a:Rat}(o:DivS A la S qs)(h:Ia S la ps qs R Q k)(q:Jc qs=qs)(g:qs≠[])(hl:qs.length<=R.length)(f:n=R.length-qs.length)
(d:a=cf R (R.length-1)/cf qs (qs.length-1)):Ia S la ps qs (JP R (JB (Jc (Dn n [a])) qs)) (XV Q (Jc (Dn n [a]))) (k+1):=by
 obtain⟨r,s,t,u,l,c,m⟩:=h;have w:0<qs.length:=Ah.2 g;have j:∀i,cf (JP R (JB (Jc (Dn n [a])) qs)) i=cf R i-(if n<=i then a*cf qs (i-n)else 0):=λi=>by rw[LE,NK]
 have b:∀i,cf (XV Q (Jc (Dn n [a]))) i=if i=n then a else cf Q i:=λi=>by
  rw[Pv,NJ];split
  . rename_i e;rw[e,c n O,Rat.zero_add]
  . exact FT _
 have v:=TH q g hl f d;refine⟨Ys _ _,X3 _ _,O,Xp (X3 _ _) λi p=>?_,λx=>?_,λi p=>?_,o.next k R Q n a m c hl f d j b⟩
 . rw[b,BC O,JZ O]
 . rw[XF,Hs,Jn,TF,l x];grind
 . rw[b,BC O];exact c i O
theorem Ia.done{la:Nat}{R Q:List Rat}{k:Nat}(h:Ia S la ps qs R Q k)(b:Jc qs=qs)(a:qs≠[])(hl:R.length<qs.length):Q=JM ps qs/\R=J7 ps qs:=by
 obtain⟨e,f,_,_,g,_⟩:=h;obtain⟨g1,g2,c,d⟩:=YU ps qs b a;exact Ps b a f c e d hl g2 (λx=>by rw[<-g x,<-g1 x])
theorem Ta(S:Nat->List Rat->List Rat->Prop)(A:Nat)(va vb:I)(ps qs:List Rat)(w:H)(ha:RowK false w va ps)(hb:RowK false w vb qs)(ay:DivS A ps.length S qs)(l:S 0 ps [])(hq:∀i,Dd A (cf qs i))(bf:Jc ps=ps)(bg:Jc qs=qs)(af:qs≠[])(fg:ps.length<=1000):
 Calls Tryz.prog 41 #[va,vb] w λe w'=>∃u v,e=.returned (.tuple #[u,v])/\RowK false w' u (JM ps qs)/\RowK false w' v (J7 ps qs)/\Bl w w':=by
 have Uf:Tryz.prog.follows .mixedOrders=true:=by kernel_rfl
 obtain⟨a,la,ca,rfl⟩:=ha.form;obtain⟨b,lb,cb,rfl⟩:=hb.form;obtain⟨fe,f7,f9,ff,_⟩:=ha.formsF;obtain⟨dt,f8,fb,du,s',t',bk,bm,et,cn,ei,co,dh⟩:=hb.formsF;have Uo:0<qs.length:=Ah.2 af;have Qi:=J (Kp _ ps w ha);rw[bf]at Qi;obtain⟨HB,Um,HQ,Qe,Qg,Qm,Qk,Ua⟩:=Ij dh hb hq bg af dt ay (Jv bg af);have Qw:=J (show DZ qs from DZ.of λi=>Sq.of (hq i) (by
  obtain⟨_,_,z,h1,_⟩:=ay.size 0 ps [] (AC _) l;omega))
 have Qc:=J (Ia.start (qs:=qs) bf l);obtain⟨lp,dx⟩:=ex (ps.length);rw[dx]at Qc Qk;have fy:1<=lb:=O
 have ga:lb<=1099511627776:=du;have gb:lp<=1000:=O
 clear ha hb l ay hq bf bg af fe dt f7 f9 f8 fb ff du dh Uo fg dx;go_enter Tryz.func41,Tryz.ntmps41
 go_wp2_with(go_at_call 45;refine Qi.o.mono ?_;clear Qi;rintro e w0 ⟨u0,rfl,ae,de⟩;obtain⟨a0,l0,c0,rfl⟩:=ae.form)
 go_loopw [6,7,8] (λqv rv _ wr=>∃(k lr:Nat) (Q R:List Rat),(∃ra rc,rv=C ra lr rc)/\(∃W ql X,qv=C W ql X)/\lr<=1000/\Hid (lr=R.length)/\Hid (Lq w wr qv rv Q R)/\Hid (Ia S lp ps qs R Q k)) λ_ rv _ _=>lenOf rv
 case atStart=>exact⟨0,_,[],ps,⟨_,_,rfl⟩,⟨_,_,_,rfl⟩,by obtain⟨_,_,e,_⟩:=id ae;cases e;have:=Qc.o.2.2.1;omega,J (by obtain⟨_,_,e,_⟩:=id ae;cases e;rfl),J ⟨RowK.nil _ _,ae,de⟩,Qc⟩
 case round=>
  clear ae de Qc;obtain⟨k,lr,Q,R,⟨ra,rc,rfl⟩,⟨W,ql,X,rfl⟩,gg,P,HX,HD⟩:=hrel;by_cases fs:lb<=lr
  . have Qj:(lb:Int)<=(lr:Int):=O
    obtain⟨n,hn⟩:=ex (lr-lb:Nat);obtain⟨m,hm⟩:=ex (lr-1:Nat);obtain⟨g,fd⟩:=ex (lb-1:Nat);have gk:(lr:Int)-(lb:Int)=(n:Int):=O
    have gh:(lr:Int)-1=(m:Int):=O
    have fu:(lb:Int)-1=(g:Int):=O
    have gl:IntKind.i64.wrap (n:Int)=(n:Int):=by rw[BS];omega
    have gi:IntKind.i64.wrap (m:Int)=(m:Int):=by rw[BS];omega
    have fw:IntKind.i64.wrap (g:Int)=(g:Int):=by rw[BS];omega
    have gj:(m:Int)<(lr:Int):=O
    have fx:(g:Int)<(lb:Int):=O
    have M:=J (show n=R.length-qs.length/\m=R.length-1/\g=qs.length-1/\qs.length<=R.length by have:=P.o;have:=Qm.o;omega);have Qd:=J (show n<1099511627775/\n+1<=1001 by omega);obtain⟨fh,fi,fj,fk,s,t,aa,bb,ll,cc,kk,dd,di⟩:=HX.o.2.1.formsF;clear fh fi fj fk;obtain⟨dj,o,rfl,ad,bn,bt,bu,ce⟩:=di m O;obtain⟨dp,q,rfl,L,ci,cj,ck,cl⟩:=HB.o g O;have Qh:=J (show ∀V,Bl wr V->(V.cell? ⟨o,m*4,none⟩=some (C (aa m) (ll m) (cc m))/\V.cell? ⟨o,m*4+1,none⟩=some (E (s m))/\V.cell? ⟨o,m*4+2,none⟩=some (C (bb m) (kk m) (dd m))/\V.cell? ⟨o,m*4+3,none⟩=some (E (t m)))/\Js V (.agg #[C (aa m) (ll m) (cc m),E (s m),C (bb m) (kk m) (dd m),E (t m)]) (cf R m)from λV r=>by
     exact⟨⟨(r.cell (p:=⟨o,_,none⟩) ad).trans bn,(r.cell (p:=⟨o,_,none⟩) ad).trans bt,(r.cell (p:=⟨o,_,none⟩) ad).trans bu,(r.cell (p:=⟨o,_,none⟩) ad).trans ce⟩,dj.below r⟩)
    have Qn:=J (show ∀V,Bl w V->(V.cell? ⟨q,g*4,none⟩=some (C (bk g) (et g) (cn g))/\V.cell? ⟨q,g*4+1,none⟩=some (E (s' g))/\V.cell? ⟨q,g*4+2,none⟩=some (C (bm g) (ei g) (co g))/\V.cell? ⟨q,g*4+3,none⟩=some (E (t' g)))/\Js V (.agg #[C (bk g) (et g) (cn g),E (s' g),C (bm g) (ei g) (co g),E (t' g)]) (cf qs g)from λV r=>by
     exact⟨⟨(r.cell (p:=⟨q,_,none⟩) L).trans ci,(r.cell (p:=⟨q,_,none⟩) L).trans cj,(r.cell (p:=⟨q,_,none⟩) L).trans ck,(r.cell (p:=⟨q,_,none⟩) L).trans cl⟩,dp.below r⟩)
    obtain⟨sR,sQ,z,hz,ed⟩:=Qk.o.size k R Q (by have:=HD.o.2.2.1;omega) HD.o.2.2.2.2.2.2;obtain⟨x,hx⟩:=ex (cf R m/cf qs g);have Qr:=J (show x=cf R (R.length-1)/cf qs (qs.length-1)by rw[<-hx,<-M.o.2.1,<-M.o.2.2.1]);have Qx:=J (show cf qs g≠0 by rw[M.o.2.2.1];exact Ua.o);have Qf:Dd (z+A) x:=by rw[<-hx];exact(ed m).div2 (HQ.o g) Qx.o
    obtain⟨Ug,Qq,Qp,Uj,Un,Ul,Qt⟩:=MX (show Sq x from Sq.of Qf O) (show ∀j,Sq (x*cf qs j)from λj=>Sq.of (Qf.mul2 (HQ.o j)) O) sR sQ hx (HD.o.next Qk.o Qe.o Qg.o M.o.2.2.2 M.o.1 Qr.o) (TH Qe.o Qg.o M.o.2.2.2 M.o.1 Qr.o);have Qo:=J (show DZ (Jc (Dn n [x]))from DZ.of λi=>by
     rw[NJ];split
     . exact Ug.o
     . exact Sq.of (Dd.zero 1 O) O)
    have Qy:=J (show DZ (JB (Jc (Dn n [x])) qs)from DZ.of λi=>by
     rw[NK];split
     . exact Qq.o _
     . exact Sq.of (Dd.zero 1 O) O)
    have Ub:=J (show M3.Hi (Jc (Dn n [x])) qs from fF (n:=n) (λi T=>by rw[NJ,BC T]) λj=>by rw[NJ,BG rfl];exact Qq.o j);have Qu:=J (fE n x);have Qz:=J (show(JB (Jc (Dn n [x])) qs).length<1099511627776 by
     have h1:(JB (Jc (Dn n [x])) qs).length<=R.length:=Xp (J4 _ _) (λi T=>by
      rw[NK];split
      . rw[JZ (p:=qs) (by have:=M.o;omega),F2]
      . rfl)
     have:=P.o;omega)
    have Qv:=J (show Q.length<1099511627776/\R.length<1099511627776 by have:=HD.o.2.2.2.1;have:=P.o;omega);clear dj ad bn bt bu ce dp L ci cj ck cl di hz ed sR sQ hx Qf hn hm fd;go_wp2_with fail
    have Ud:Lr w wr wr.drew (C W ql X) (C (some ⟨o,0,none⟩) lr rc) Q R:=⟨HX.o.below ((BB _ wr).drew),(BB _ wr).drew⟩;refine Jl Uf [[],[0],[],[2],[1,3],[],[],[6],[7],[5,8],[9],[],[],[12],[13],[11,14],[15],[10,16],[4,17,17],[18,18,0,1,2,3,4,5,6,7,8,9,10,11,12,13,14,15,16,17,18]] (by kernel_rfl) DP
     (λD aw V=>∃(ta tb tc td te tf tg ti tj tk tl tm tn tp tq tr ts tt tu tv:I),aw={ tmps:=#[C a la ca,C (some ⟨q,0,none⟩) lb cb,undef,undef,C none 0 0,C none 0 0,C W ql X,C (some ⟨o,0,none⟩) lr rc,tv,C a la ca,C a0 l0 c0,C (some ⟨o,0,none⟩) lr rc,B .i64 ↑lr,C (some ⟨q,0,none⟩) lb cb,B .i64 ↑lb,E true,ta,tb,tc,td,te,tf,tg,ti,tj,tk,tl,tm,tn,tp,tq,tr,ts,tt,tu,u35,u36,u37,u38,u39,u40,u41,u42,undef,undef],defers:=[] }/\Hid ((D 0=true->ta=C (some ⟨o,0,none⟩) lr rc)/\(D 1=true->tb=B .i64 (lr:Int))/\(D 2=true->tc=C (some ⟨q,0,none⟩) lb cb)/\(D 3=true->td=B .i64 (lb:Int))/\(D 4=true->te=B .i64 (n:Int))/\(D 5=true->tf=C (some ⟨o,0,none⟩) lr rc)/\(D 6=true->tg=C (some ⟨o,0,none⟩) lr rc)/\(D 7=true->ti=B .i64 (lr:Int))/\(D 8=true->tj=B .i64 (m:Int))/\(D 9=true->tk=F (some ⟨o,m*4,none⟩))/\(D 10=true->Js V tl (cf R m))/\(D 11=true->tm=C (some ⟨q,0,none⟩) lb cb)/\(D 12=true->tn=C (some ⟨q,0,none⟩) lb cb)/\(D 13=true->tp=B .i64 (lb:Int))/\(D 14=true->tq=B .i64 (g:Int))/\(D 15=true->tr=F (some ⟨q,g*4,none⟩))/\(D 16=true->Js V ts (cf qs g))/\(D 17=true->Js V tt x)/\(D 18=true->RowK false V tu (Jc (Dn n [x])))/\(D 19=true->RowK false V tv (Jc (Dn n [x]))))/\Hid (Lr w wr V (C W ql X) (C (some ⟨o,0,none⟩) lr rc) Q R))
     (Eb ⟨_,_,_,_,rfl,J ⟨Y,Y,Y,Y,Y,Y,Y,Y,Y,Y,Y,Y,Y,Y,Y,Y,Y,Y,Y,Y⟩,J Ud⟩) ?step1 ?fin1
    case step1=>
     rintro D aw V i ds fo T f fm ⟨ta,tb,tc,td,te,tf,tg,ti,tj,tk,tl,tm,tn,tp,tq,tr,ts,tt,tu,tv,rfl,d,c⟩;have ft:i<20:=(Ac.1 T).1;obtain rfl|rfl|rfl|rfl|rfl|rfl|rfl|rfl|rfl|rfl|rfl|rfl|rfl|rfl|rfl|rfl|rfl|rfl|rfl|rfl:=Nb i O
     all_goals
      simp only[Af,Ae,Ag]at T;subst T
     . have l:=c.o;clear f;refine DS ?_;exact⟨(Dh d),J (c.o)⟩
     . have l:=c.o;obtain rfl:=d.o.1 (f 0 Y);clear f;refine DS ?_;exact⟨(Dp (Dh d)),J (c.o)⟩
     . have l:=c.o;clear f;refine DS ?_;exact⟨(Dg d),J (c.o)⟩
     . have l:=c.o;obtain rfl:=d.o.2.2.1 (f 2 Y);clear f;refine DS ?_;exact⟨(Dl (Dg d)),J (c.o)⟩
     . have l:=c.o;obtain rfl:=d.o.2.1 (f 1 Y);obtain rfl:=d.o.2.2.2.1 (f 3 Y);clear f;refine DS ?_;exact⟨(Dz (Dl (Dp d))),J (c.o)⟩
     . have l:=c.o;clear f;refine DS ?_;exact⟨(D0 d),J (c.o)⟩
     . have l:=c.o;clear f;refine DS ?_;exact⟨(Dx d),J (c.o)⟩
     . have l:=c.o;obtain rfl:=Ds d (f 6 Y);clear f;refine DS ?_;exact⟨(EC (Dx d)),J (c.o)⟩
     . have l:=c.o;obtain rfl:=Du d (f 7 Y);clear f;refine DS ?_;exact⟨(EK (EC d)),J (c.o)⟩
     . have l:=c.o;obtain rfl:=Dq d (f 5 Y);obtain rfl:=D5 d (f 8 Y);clear f;refine DS ?_;exact⟨(Es (EK (D0 d))),J (c.o)⟩
     . have l:=c.o;obtain rfl:=ED d (f 9 Y);obtain⟨⟨e0,e1,e2,e3⟩,hr⟩:=Qh.o V l.2;clear f;refine DS ?_;exact⟨(D7 (Es d) λ_=>hr),J (c.o)⟩
     . have l:=c.o;clear f;refine DS ?_;exact⟨(D8 d),J (c.o)⟩
     . have l:=c.o;clear f;refine DS ?_;exact⟨(EH d),J (c.o)⟩
     . have l:=c.o;obtain rfl:=Em d (f 12 Y);clear f;refine DS ?_;exact⟨(ES (EH d)),J (c.o)⟩
     . have l:=c.o;obtain rfl:=Gb d (f 13 Y);clear f;refine DS ?_;exact⟨(El (ES d)),J (c.o)⟩
     . have l:=c.o;obtain rfl:=Ee d (f 11 Y);obtain rfl:=Hf d (f 14 Y);clear f;refine DS ?_;exact⟨(IH (El (D8 d))),J (c.o)⟩
     . have l:=c.o;obtain rfl:=LP d (f 15 Y);obtain⟨⟨e0,e1,e2,e3⟩,hr⟩:=Qn.o V l.1.2.2;clear f;refine DS ?_;exact⟨(OI (IH d) λ_=>hr),J (c.o)⟩
     . have l:=c.o;have N:=Dr d (f 10 Y);have h1:=ON d (f 16 Y);clear f;have HC:=J (SW _ _ (cf R m) (cf qs g) V N h1 (Qp.o.at m) (Qw.o.at g) Qx.o);rw[Un.o]at HC;clear N h1;refine Jb rfl rfl λK hK=>?_;go_simp;go_wp2_with(go_at_call 77;refine HC.o.mono ?_;rintro e w5 ⟨v5,rfl,bj,y⟩)
       obtain⟨G0,G1,G2,G3,G4,G5,G6,G7,G8,G9,ah,ai,aj,ak,am,an,ap,_,f6,aq⟩:=d.o;exact Eb ⟨_,_,_,_,rfl,J ⟨G0,G1,G2,G3,G4,G5,G6,G7,G8,G9,λh=>(ah h).below y,ai,aj,ak,am,an,λh=>(ap h).below y,λ_=>bj,λh=>(f6 h).below y,λh=>(aq h).below y⟩,J (c.o.below y)⟩
     . have l:=c.o;have N:=OO d (f 17 Y);obtain rfl:=d.o.2.2.2.2.1 (f 4 Y);clear f;have HC:=J (Le _ n x V N Qd.o.1);clear N;refine Jb rfl rfl λK hK=>?_;go_simp;go_wp2_with(go_at_call 78;refine HC.o.mono ?_;rintro e w5 ⟨v5,rfl,bj,y⟩)
       obtain⟨G0,G1,G2,G3,_,G5,G6,G7,G8,G9,ah,ai,aj,ak,am,an,ap,ew,_,aq⟩:=d.o;exact Eb ⟨_,_,_,_,rfl,J ⟨G0,G1,G2,G3,λ_=>rfl,G5,G6,G7,G8,G9,λh=>(ah h).below y,ai,aj,ak,am,an,λh=>(ap h).below y,λh=>(ew h).below y,λ_=>bj,λh=>(aq h).below y⟩,J (c.o.below y)⟩
     . have l:=c.o;have N:=OP d (f 18 Y);clear f;refine DS ?_;exact⟨(OM d λ_=>N),J (c.o)⟩
    case fin1=>
     rintro D aw V ct ⟨ta,tb,tc,td,te,tf,tg,ti,tj,tk,tl,tm,tn,tp,tq,tr,ts,tt,tu,tv,rfl,d,c⟩;have hM:=d.o.2.2.2.2.2.2.2.2.2.2.2.2.2.2.2.2.2.2.2 (ct 19 DP);have HV:=J c.o.1;clear d c ct;obtain⟨a9,l9,c9,rfl⟩:=hM.form;have HM:=J hM;clear hM;obtain⟨H1,H2,H3⟩:=Di (Iq _ _ Q (Jc (Dn n [x])) V HV.o.1 HM.o Uj.o Qo.o ⟨Qv.o.1,by have:=Qu.o;have:=Qd.o;omega⟩) (λ(U:H) (h:Bl V U)=>O6 _ _ (Jc (Dn n [x])) qs U (HM.o.below h) (Um.o.below (Bt HV.o.2.2 h)) Qo.o Qw.o Ub.o (by have:=Qu.o;have:=Qd.o;have:=Qm.o;omega)) λ(U:H) (h:Bl V U) (v:I) (hv:RowK false U v (JB (Jc (Dn n [x])) qs))=>KU _ v R _ U (HV.o.2.1.below h) hv Qp.o Qy.o ⟨Qv.o.2,Qz.o⟩;go_wp2_with(first
      |(go_at_call 64;refine H1.o.mono ?_;clear H1;rintro e w1 ⟨u1,rfl,bh,bc⟩;obtain⟨a1,l1,c1,rfl⟩:=bh.form;have Ui:=J bh;clear bh)
      |(go_at_call 14;refine(H2.o _ bc).mono ?_;clear H2;rintro e w2 ⟨u2,rfl,dz,L⟩;have Ql:=Bt bc L;have Uh:=J (Ui.o.below L);clear L)
      |(go_at_call 63;refine(H3.o _ Ql _ dz).mono ?_;clear H3;rintro e w3 ⟨u3,rfl,bi,az⟩;obtain⟨a3,c3,rfl,_⟩:=id bi;have Uk:=J bi;have Uc:=J (Bt Ql az);have Ue:=J (Uh.o.below az);clear dz bi az bc Ql))
     go_roundw
     case rel=>exact⟨k+1,_,_,_,⟨_,_,rfl⟩,⟨_,_,_,rfl⟩,by have:=Qt.o;have:=P.o;omega,J rfl,J ⟨Ue.o,Uk.o,Bt HV.o.2.2 Uc.o⟩,Ul⟩
     case measure=>
      show(JP R _).length<lr;have:=Qt.o;have:=P.o;omega
  . have Qj:¬(lb:Int)<=(lr:Int):=O
    have Qs:=J (HD.o.done Qe.o Qg.o (by have:=P.o;have:=Qm.o;omega));go_wp2_with fail
    exact BA (v:=.tuple #[C W ql X,C ra lr rc]) (by simp[results,Tryz.results41,go_sem]) rfl ⟨_,_,rfl,by rw[<-Qs.o.1];exact HX.o.1,by rw[<-Qs.o.2];exact HX.o.2.1,HX.o.2.2⟩
end
section
open Go.RowKit Go.Shelf
section
variable {D E l:Int} {K A:Nat} {ps qs:List Rat}
structure Dvn(D E l:Int)(K A:Nat)(ps qs:List Rat):Prop where
 hD:D≠0
 sD:Sm K D
 hp:EF D K ps
 hE:E≠0
 sE:Sm A E
 hq:EF E A qs
 hl:l≠0
 sl:Sm A l
 lead:cf qs (qs.length-1)=Rat.divInt l E
variable{m:Nat}
theorem Dvn.lne(h:Dvn D E l K A ps qs):cf qs (qs.length-1)≠0:=by
 rw[h.lead];intro e;have hE:(E:Rat)≠0:=by exact_mod_cast h.hE
 have a:(l:Rat)/(E:Rat)*(E:Rat)=l:=Cb hE;rw[<-CF,e,Cu]at a;exact h.hl (by exact_mod_cast a.symm)
theorem Dvn.sq(h:Dvn D E l K A ps qs)(i:Nat):Dd A (cf qs i):=(h.hq i).smq h.hE h.sE
theorem Dvn.den(h:Dvn D E l K A ps qs)(k:Nat):D*l^k≠0/\Sm (K+k*(A+1)+1) (D*l^k):=by
 refine⟨Co h.hD (Int.pow_ne_zero h.hl),(h.sD.mul (h.sl.powZ k)).mono ?_⟩;rw[Az];omega
theorem Dvn.at(h:Dvn D E l K A ps qs)(k:Nat):(∀i,Dd (K+k*(A+1)+1) (cf (JJ ps qs (qs.length-1) m k).2 i))/\∀i,Dd (K+k*(A+1)+1) (cf (JJ ps qs (qs.length-1) m k).1 i):=by
 have b:=TM (m:=m) h.hD h.hp h.hE h.sE h.hq h.hl h.sl h.lead h.lne k;have a:=h.den k;exact⟨λi=>((b.1 i).mono O).smq a.1 a.2,λi=>((b.2 i).mono O).smq a.1 a.2⟩
theorem Dvn.sizes(h:Dvn D E l K A ps qs)(c:2*(K+m*(A+1)+1)+2*(2*A+1)<=1000000):∀k,k<=m->∃z,z+(2*A+1)<=1000000/\(k<m->2*z+2*(2*A+1)<=1000000)/\(∀i,Dd z (cf (JJ ps qs (qs.length-1) m k).2 i))/\∀i,Dd (z+A) (cf (JJ ps qs (qs.length-1) m k).1 i):=by
 intro k a;have b:k*(A+1)<=m*(A+1):=Ak _ a;exact⟨K+k*(A+1)+1,O,λ_=>by omega,(h.at k).1,λi=>((h.at k).2 i).mono O⟩
theorem Dvn.rem(h:Dvn D E l K A ps qs)(b:ps.length-(qs.length-1)=m):EF (D*l^m) (K+m*(A+1)) (J7 ps qs)/\EF (D*l^m) (K+m*(A+1)) (JM ps qs):=by
 have a:=TM (m:=m) h.hD h.hp h.hE h.sE h.hq h.hl h.sl h.lead h.lne m;refine⟨λi=>?_,λi=>?_⟩
 . unfold J7;rw[JX,b];exact a.1 i
 . unfold JM;rw[JX,b];exact a.2 i
theorem Dvn.divS(h:Dvn D E l K A ps qs)(la:Nat)(M:K+la*(A+1)+1+(2*A+1)<=1000000):DivS A la (λk R Q=>EF (D*l^k) (K+k*(A+1)) R/\EF (D*l^k) (K+k*(A+1)) Q) qs:=by
 refine⟨?_,?_⟩
 . rintro k R Q n a ⟨b,d⟩ _ _ _ u w v;have q:D*l^k≠0:=(h.den k).1;have e:D*l^(k+1)=D*l^k*l:=by rw[Int.pow_succ,CM]
   rw[e];have p:D*l^k*l≠0:=Co q h.hl;obtain⟨r,t,g⟩:=b (R.length-1);have f:a=Rat.divInt (r*E) (D*l^k*l):=by
    rw[u];have s:cf R (R.length-1)=Rat.divInt (r*E) (D*l^k*l)*cf qs (qs.length-1):=by
     rw[h.lead,C1,t,show r*E*l=r*(E*l)from CM _ _ _,show D*l^k*l*E=D*l^k*(E*l)by rw[CM (D*l^k),CQ l E],C8 (Co h.hE h.hl)]
    rw[s,Rat.mul_div_cancel h.lne]
   have m:CD (D*l^k*l) (K+(k+1)*(A+1)) a:=⟨r*E,f,(g.mul h.sE).mono (by rw[AA];omega)⟩;have o:∀j,CD (D*l^k*l) (K+k*(A+1)+A) (a*cf qs j):=λj=>by
    obtain⟨x,ex,z⟩:=h.hq j;refine⟨r*x,?_,g.mul z⟩;rw[f,ex,C1,show r*E*x=r*x*E by rw[CM,CQ E x,CM],C8 h.hE]
   refine⟨λi=>?_,λi=>?_⟩
   . rw[w];split
     . rw[FH];exact(((b i).wide h.sl h.hl).add (TL (o _)) p).mono (by rw[AA];omega)
     . rw[FH,Rat.neg_zero,FT];exact((b i).wide h.sl h.hl).mono (by rw[AA];omega)
   . rw[v];split
     . exact m
     . exact((d i).wide h.sl h.hl).mono (by rw[AA];omega)
 . rintro k R Q y ⟨b,d⟩;have L:k*(A+1)<=la*(A+1):=Ak _ y;have c:=h.den k;exact⟨DZ.of λi=>Sq.of (((b i).mono O).smq c.1 c.2) O,DZ.of λi=>Sq.of (((d i).mono O).smq c.1 c.2) O,K+k*(A+1)+1,O,λi=>((b i).mono O).smq c.1 c.2⟩
theorem Dvn.start(h:Dvn D E l K A ps qs):EF (D*l^0) (K+0*(A+1)) ps/\EF (D*l^0) (K+0*(A+1)) []:=by
 rw[Int.pow_zero,FZ];exact⟨λi=>(h.hp i).mono O,λi=>by rw[YI];exact CD.zero _ _⟩
end
def Ei(A:Nat)(p:List Rat):Prop:=∀i,∃z:Int,Sm A z/\cf p i=(z:Rat)
variable{p:List Rat}{A:Nat}
theorem Ei.cdl(h:Ei A p):EF 1 A p:=λi=>by
 obtain⟨z,a,b⟩:=h i;exact NS DP a (by rw[b];grind)
theorem Ei.mono{A B:Nat}{p:List Rat}(h:Ei A p)(c:A<=B):Ei B p:=λi=>by
 obtain⟨z,a,b⟩:=h i;exact⟨z,a.mono c,b⟩
theorem Ei.ln{A:Nat}{p:List Rat}(h:Ei A p):Ln A p:=h.cdl.ln DP
theorem Ei.smq{A:Nat}{p:List Rat}(h:Ei A p)(a:1<=A)(i:Nat):Dd A (cf p i):=(h.cdl i).smq DP (Sm.one A a)
theorem PL(hp:Jc p=p)(d:p≠[])(h:Ln A p):∃E:Int,E≠0/\Sm A E/\EF E A (Jt p):=by
 obtain⟨c,k,b⟩:=h;have hl:=Jv hp d;obtain⟨E,f,a⟩:=b (p.length-1);have hE:E≠0:=λe=>by
  rw[e]at a;exact Gj hl k a
 refine⟨E,hE,f,λi=>?_⟩;obtain⟨z,g,j⟩:=b i;refine NS hE g ?_;unfold Jt;rw[Yv,<-j,<-a];grind
theorem Ln.sqs(hp:Jc p=p)(h:Ln A p)(hA1:1<=A):∀i,Dd A (cf (Jt p) i):=by
 by_cases a:p=[]
 . subst a;intro i;rw[fZ,YI];exact Dd.zero _ hA1
 . obtain⟨E,b,c,d⟩:=PL hp a h;exact λi=>(d i).smq b c
end
section
variable{p q:List Rat}{c:Rat}
theorem gI(c:Rat):YM c=c\/YM c=-c:=by
 unfold YM;split
 . exact Or.inr rfl
 . exact Or.inl rfl
theorem gJ(h:c≠0):YM c≠0:=by
 rcases gI c with e|e
 . rw[e];exact h
 . rw[e];intro a;exact h (by rw[<-Rat.neg_neg c,a];rfl)
theorem gK(h:c≠0):∀n:Nat,c^n≠0:=by
 intro n;induction n with
 |zero=>rw[Rat.pow_zero];decide
 |succ n a=>rw[Rat.pow_succ];exact Gj a h
def Hm(p q:List Rat):Rat:=YM (cf q (q.length-1))^(p.length+1-q.length)
def Xu(p q:List Rat):List Rat:=Df (Hm p q) p
def Er(p q:List Rat):List Rat:=JP [] (Yn (J7 (Xu p q) q))
theorem gL:Yn []=[]:=rfl
theorem Iv(p:List Rat):Jc (Yn p)=Yn p:=JV _ _
theorem Ib(hp:Jc p=p):∃c:Rat,0<c/\Yn p=Df c p:=by
 by_cases a:p=[]
 . subst a;exact⟨1,DP,rfl⟩
 . exact⟨_,gH hp a,rfl⟩
theorem K5(hp:Jc p=p){K:Nat}(h:Ln K p):Ei K (Yn p):=by
 by_cases a:p=[]
 . subst a;exact λi=>⟨0,Sm.zero K,by rw[gL,YI];rfl⟩
 . exact TZ hp a h
theorem PM(hq:Jc q=q)(a:q≠[]):Hm p q≠0:=gK (gJ (Jv hq a)) _
theorem NT(p q:List Rat):Jc (Er p q)=Er p q:=Ys _ _
theorem PN(hq:Jc q=q)(b:q≠[]):∃c:Rat,c≠0/\Er p q=Df c (J7 p q)/\Er p q=Df (-1) (Yn (J7 (Xu p q) q)):=by
 have a:Er p q=Df (-1) (Yn (J7 (Xu p q) q)):=Ez (NT _ _) (JV _ _) λx=>by
  unfold Er;rw[Hs,YY];simp[ev];grind
 have f:=(Ll (c:=Hm p q) (d:=1) DP p q hq b).2;rw[IY hq]at f;obtain⟨c,g,j⟩:=Ib (Y7 (Xu p q) q);have i:c≠0:=λe=>by rw[e]at g;exact absurd g DP
 refine⟨Hm p q*c*-1,Gj (Gj (PM hq b) i) DP,?_,a⟩;rw[a,j];unfold Xu;rw[f,NO,NO,Rat.mul_assoc]
theorem Tb(hq:Jc q=q)(a:q≠[]){A:Nat}(h:Ln A (J7 p q)):Ei A (Yn (J7 (Xu p q) q))/\Ei A (Er p q):=by
 have b:=(Ll (c:=Hm p q) (d:=1) DP p q hq a).2;rw[IY hq]at b;have f:Ei A (Yn (J7 (Xu p q) q)):=K5 (Y7 _ _) (by unfold Xu;rw[b];exact h.sc (PM hq a));refine⟨f,λi=>?_⟩;obtain⟨z,g,j⟩:=f i;obtain⟨_,_,_,e⟩:=PN (p:=p) hq a;exact⟨-z,g.neg,by rw[e,Yv,j,Rat.intCast_neg];grind⟩
structure Chn(p q:List Rat)(A:Nat)(a b:List Rat):Prop where
 ta:Jc a=a
 tb:Jc b=b
 wa:Ei A a
 wb:Ei A b
 gc:JC a b=JC p q
 la:a.length<=max p.length q.length
 lb:b.length<=q.length
 nx:b≠[]->Ln A (J7 a b)
 eu:Eu (Yn p) (Yn q) a b
def De(K:Nat)(p q:List Rat):Nat:=(K+1)*(p.length+q.length+1)
theorem IB(K:Nat)(p q:List Rat):K+1<=De K p q:=by
 unfold De;have:(K+1)*1<=(K+1)*(p.length+q.length+1):=Aq _ O;omega
theorem Tc(K:Nat)(p q:List Rat):(K+1)*(p.length+q.length)<=De K p q:=Aq _ O
theorem XC(hp:Jc p=p):(Yn p).length=p.length:=by
 obtain⟨c,a,e⟩:=Ib hp;rw[e];exact Ym (λb=>by rw[b]at a;exact absurd a DP) hp
theorem Td(hp:Jc p=p)(hq:Jc q=q):JC (Yn p) (Yn q)=JC p q:=by
 obtain⟨c,b,e⟩:=Ib hp;obtain⟨d,f,g⟩:=Ib hq;rw[e,g];exact K4 (λa=>by rw[a]at b;exact absurd b DP) (λa=>by rw[a]at f;exact absurd f DP) hp hq
section
variable {K:Nat} {p q a b:List Rat}
theorem Chn.ln_rem(hp:Jc p=p)(hq:Jc q=q)(d:Ln K p)(e:Ln K q)(hl:p.length+q.length<=1000000)(h:Eu (Yn p) (Yn q) a b)(f:b≠[]):Ln (De K p q) (J7 a b):=by
 have c:=TR (Iv p) (Iv q) (K5 hp d).ln (K5 hq e).ln (by rw[XC hp,XC hq];exact hl) h f;rw[XC hp,XC hq]at c;exact c.mono (Tc _ _ _)
theorem Chn.start(hp:Jc p=p)(hq:Jc q=q)(a:Ln K p)(b:Ln K q)(hl:p.length+q.length<=1000000):Chn p q (De K p q) (Yn p) (Yn q) where
 ta:=Iv p
 tb:=Iv q
 wa:=(K5 hp a).mono (by have:=IB K p q;omega)
 wb:=(K5 hq b).mono (by have:=IB K p q;omega)
 gc:=Td hp hq
 la:=by rw[XC hp];exact Nat.le_max_left _ _
 lb:=by rw[XC hq];exact Aa _
 nx:=Chn.ln_rem hp hq a b hl (.base _ _)
 eu:=.base _ _
theorem Chn.next(hp:Jc p=p)(hq:Jc q=q)(i:Ln K p)(j:Ln K q)(hl:p.length+q.length<=1000000)(h:Chn p q (De K p q) a b)(d:b≠[]):Chn p q (De K p q) b (Er a b):=by
 obtain⟨c,g,e,_⟩:=PN (p:=a) h.tb d;have f:Eu (Yn p) (Yn q) b (Er a b):=by rw[e];exact h.eu.tail d g
 have l:(Er a b).length<b.length:=by
  rw[e,Ym g (Y7 _ _)];exact(YU a b h.tb d).2.1
 have k:=h.lb;exact⟨h.tb,NT _ _,h.wb,(Tb h.tb d (h.nx d)).2,by rw[<-f.gcd (Iv p) (Iv q)];exact Td hp hq,O,O,Chn.ln_rem hp hq i j hl f,f⟩
end
variable{p:List Rat}{A:Nat}
theorem NU{a b:List Rat}(f:Jc b=b)(d:b≠[]):(Er a b).length<b.length:=by
 obtain⟨c,g,e,_⟩:=PN (p:=a) f d;rw[e,Ym g (Y7 _ _)];exact(YU a b f d).2.1
structure Rhn(p q:List Rat)(A:Nat)(a b:List Rat):Prop where
 ta:Jc a=a
 tb:Jc b=b
 ca:∃D:Int,D≠0/\Sm A D/\EF D A a
 cb:∃E:Int,E≠0/\Sm A E/\EF E A b
 mb:b≠[]->cf b (b.length-1)=1
 ma:Jt a=a
 gc:JC a b=JC p q
 la:a.length<=max p.length q.length
 lb:b.length<=q.length
 nx:b≠[]->Ln A (J7 a b)
 eu:Eu (Jt p) (Jt q) a b
theorem PO(a:1<=A):∃D:Int,D≠0/\Sm A D/\EF D A []:=⟨1,DP,Sm.one A a,λi=>by rw[YI];exact CD.zero _ _⟩
theorem KX(hp:Jc p=p)(h:Ln A p)(b:1<=A):∃E:Int,E≠0/\Sm A E/\EF E A (Jt p):=by
 by_cases a:p=[]
 . subst a;exact PO b
 . exact PL hp a h
theorem Te{K:Nat}(hp:Jc p=p)(h:Ln K p):Ln K (Jt p):=by
 by_cases a:p=[]
 . subst a;exact h
 . exact h.sc (Hl (Jv hp a))
theorem Tf(hp:Jc p=p)(h:Jt p≠[]):cf (Jt p) ((Jt p).length-1)=1:=Lo hp (λe=>h (by rw[e];rfl))
section
variable {K:Nat} {p q a b:List Rat}
theorem Rhn.ln_rem(hp:Jc p=p)(hq:Jc q=q)(d:Ln K p)(e:Ln K q)(hl:p.length+q.length<=1000000)(h:Eu (Jt p) (Jt q) a b)(f:b≠[]):Ln (De K p q) (J7 a b):=by
 have c:=TR (YF p) (YF q) (Te hp d) (Te hq e) (by rw[Yg hp,Yg hq];exact hl) h f;rw[Yg hp,Yg hq]at c;exact c.mono (Tc _ _ _)
theorem Rhn.start(hp:Jc p=p)(hq:Jc q=q)(a:Ln K p)(b:Ln K q)(hl:p.length+q.length<=1000000):Rhn p q (De K p q) (Jt p) (Jt q) where
 ta:=YF p
 tb:=YF q
 ca:=KX hp (a.mono (by have:=IB K p q;omega)) (by have:=IB K p q;omega)
 cb:=KX hq (b.mono (by have:=IB K p q;omega)) (by have:=IB K p q;omega)
 mb:=Tf hq
 ma:=Iu hp
 gc:=TS p q hp hq
 la:=by rw[Yg hp];exact Nat.le_max_left _ _
 lb:=by rw[Yg hq];exact Aa _
 nx:=Rhn.ln_rem hp hq a b hl (.base _ _)
 eu:=.base _ _
theorem Rhn.next(hp:Jc p=p)(hq:Jc q=q)(i:Ln K p)(j:Ln K q)(hl:p.length+q.length<=1000000)(h:Rhn p q (De K p q) a b)(d:b≠[]):Rhn p q (De K p q) b (Jt (J7 a b)):=by
 have e:=Y7 a b;have f:Eu (Jt p) (Jt q) b (Jt (J7 a b)):=by
  by_cases g:J7 a b=[]
  . have:=h.eu.tail (c:=1) d DP;rw[g]at this ⊢;exact this
  . exact h.eu.tail d (Hl (Jv e g))
 have l:(Jt (J7 a b)).length<b.length:=by
  rw[Yg e];exact(YU a b h.tb d).2.1
 have k:=h.lb;refine⟨h.tb,YF _,h.cb,KX e (h.nx d) (by have:=IB K p q;omega),Tf e,?_,by rw[<-f.gcd (YF p) (YF q)];exact TS p q hp hq,O,O,Rhn.ln_rem hp hq i j hl f,f⟩;unfold Jt;rw[h.mb d,show(1:Rat)/1=1 by grind];exact IY h.tb
end
end
section
open Go.RowKit Go.Shelf
theorem Tg(q:Rat):IP q 0<0↔q<0:=by
 rw[Rat.lt_iff];unfold IP Ef;split<;>(try split)<;>omega
theorem gM(a b:Nat):(a:Int)*((b:Int)/((Int.gcd a b:Nat):Int))=((Nat.lcm a b:Nat):Int):=by
 show(a:Int)*((b:Int)/((Nat.gcd a b:Nat):Int))=_;rw[<-Fs,<-Fe];congr 1;rw[Nat.lcm,Nat.mul_div_assoc _ (C0 a b)]
theorem K6(ps:List Rat)(i:Nat):(if((i:Nat):Int)<0 then(0:Rat)else cf ps ((i:Nat):Int).toNat)=cf ps i:=by
 rw[BC O,CE]
theorem gN(A:Nat)(b c:I)(ps qs:List Rat)(w:H)(g:Jh w b ps)(j:Jh w c qs)(hs:DZ ps)(hq:∀i,Dd A (cf qs i))(l:Jc ps=ps)(m:Jc qs=qs)(a:qs≠[])
(f:∀k,k<=ps.length-(qs.length-1)->∃z,z+(2*A+1)<=1000000/\(k<ps.length-(qs.length-1)->2*z+2*(2*A+1)<=1000000)/\(∀i,Dd z (cf (JJ ps qs (qs.length-1) (ps.length-(qs.length-1)) k).2 i))/\∀i,Dd (z+A) (cf (JJ ps qs (qs.length-1) (ps.length-(qs.length-1)) k).1 i)):
 Calls Tryz.prog 22 #[b,c] w λe d=>∃u v,e=.returned (.tuple #[u,v,E true])/\Jh d u (JM ps qs)/\Jh d v (J7 ps qs)/\Bl w d:=by
 have h:=M3.TJ A b c ps qs w g j hs hq l m λ_=>f;rw[BK a,BC a,BC a]at h;exact h
end
namespace M3
open Go.RowKit Go.Shelf
variable{S:List Rat}{c i l n:Nat}{a:Option Addr}{v:I}{V:H}
theorem Th(n:Nat)(h:n<=2199023255552)(w:H):(Instr.makeSlice 22 (B .i64 (n:Int)) (B .i64 (n:Int))).run Tryz.prog w=.ok (C (some ⟨w.heap.size,0,none⟩) n n) (w.alloc (G (Yo n) 65)):=by
 obtain⟨i,d,b⟩:=FI.1 Tryz.infoRat;simp only[Prod.mk.injEq]at b;obtain⟨e,hs,c⟩:=b;have a:=run_make (P:=Tryz.prog) w 22 65 i _ Tryz.underlying22 d e .i64 .i64 n n O (Int.le_refl _) (by rw[c];omega) O;simp only[CE,hs]at a;exact a
theorem Ic(V:H):Has V (.agg #[C Option.none 0 0]) (.poly []):=⟨_,rfl,row_zero V Option.none⟩
theorem Ti(V:H):Jh V (.agg #[C Option.none 0 0]) []:=⟨_,rfl,row_zero V Option.none⟩
theorem Mem.poly2{w:H}{bs:List (Option (Nat × Dat))}(M:Mem w V bs){B:Nat}{ps:List Rat}(h:bs[i]?=some (some (B,.poly ps))):∃a l c,Boxed V B 25 (C a l c)/\Jh V (.agg #[C a l c]) ps:=by
 obtain⟨a,l,c,b,d⟩:=M.poly h;exact⟨a,l,c,b,_,rfl,d⟩
theorem Ls{W:H}{B:Nat}(b:Boxed W B 25 (C a l c)){x:I}{qs:List Rat}(h:Jh W v qs):Jh (W.setCell ⟨B,0,Option.none⟩ x) v qs:=by
 obtain⟨u,e,h⟩:=h;exact⟨u,e,F8 b x h⟩
theorem Has.set1{d:Dat}(h:Has V v d){B:Nat}(q:Boxed V B 25 (C a l c))(n0:JF (C a l c)=true)(b:I):Has (V.setCell ⟨B,0,Option.none⟩ b) v d:=
 h.keep (Rp q n0 b) (Or.inr λ_ _ g=>F8 q b g)
theorem Tup2.set1{V:H}{v:I}{d1 d:Dat}(h:Tup2 V v d1 d){B:Nat}{a:Option Addr}{l c:Nat}(q:Boxed V B 25 (C a l c))(n0:JF (C a l c)=true)(b:I):Tup2 (V.setCell ⟨B,0,Option.none⟩ b) v d1 d:=by
 obtain⟨u1,u2,e,f,g⟩:=h;exact⟨u1,u2,e,f.set1 q n0 b,g.set1 q n0 b⟩
attribute [local go_sem] Oper.semAt_some
theorem gO(va:I)(q:Rat)(w:H)(P:Jk w va q)(af:Sq q):
 Calls Tryz.prog 129 #[va] w λe w'=>∃u,e=.returned u/\Jk w' u (YM q)/\Bl w w':=by
 obtain⟨aj,U,ai,X,ak,W,ah,ad,rfl⟩:=Jk.form P;have g:=(((Mem.nil w).push (.rat q) P).push (.rat 0) (Eo _));simp only[A1]at g;have g:Mem w ((w.alloc (G #[E aj,C U ai X,E ak,C W ah ad] 65)).alloc (G #[E false,C none 0 0,E false,C none 0 0] 65)) [some (w.heap.size,.rat q),some (w.heap.size+1,.rat 0)]:=g;obtain⟨W0,N⟩:=ex ((w.alloc (G #[E aj,C U ai X,E ak,C W ah ad] 65)).alloc (G #[E false,C none 0 0,E false,C none 0 0] 65));have T:=J N;rw[N]at g;have j:Hid (Mem w W0 [some (w.heap.size,.rat q),some (w.heap.size+1,.rat 0)]):=J g;have S:=J af;clear g N P af;go_enter Tryz.func129,Tryz.ntmps129
 go_upto_region 1 with fail
 rw[T.o];clear T;obtain⟨s1,a1,l1,c1,t1,b1,k1,d1,z,r1,i1,j1⟩:=j.o.rat (i:=0) rfl;obtain⟨t,k,o,s⟩:=z.cq;obtain⟨s2,a2,l2,c2,t2,b2,k2,d2,a,r2,i2,j2⟩:=j.o.rat (i:=1) rfl;obtain⟨b,c,f,d⟩:=a.cq;obtain⟨m,l,r,p⟩:=a.fq;obtain⟨x,A,HR⟩:=Di (R3 _ _ q 0 W0 r1 (Eo _) S.o KQ) (λ(V:H) (h:Bl W0 V)=>LZ _ _ 0 q V (Eo _) (r1.below h) KQ S.o) r1;obtain⟨n,Q⟩:=ex (IP q 0);rw[Q]at x;have R:=J Q;clear Q r1 i1 j1;by_cases ae:n<0
 . have D:=J (show 0-q=YM q by
    have M:=(Tg q).1 (by rw[R.o];exact ae);unfold YM;rw[BG M];grind)
   rw[D.o]at A;go_wp2_with(first
    |(go_at_call 68;refine x.o.mono ?_;clear x;rintro e w1 ⟨rfl,hq⟩;clear t k o s;obtain⟨t,k,o,s⟩:=(z.below hq).cq;clear b c f d;obtain⟨b,c,f,d⟩:=(a.below hq).cq;clear m l r p;obtain⟨m,l,r,p⟩:=(a.below hq).fq)
    |(go_at_call 51;refine(A.o _ hq).mono ?_;clear A;rintro e w2 ⟨u2,rfl,y,aw⟩;obtain⟨bc,am,az,ap,bf,an,ay,aq,rfl⟩:=Jk.form y;have hq:=Bt hq aw;clear t k o s;obtain⟨t,k,o,s⟩:=(z.below hq).cq;clear b c f d;obtain⟨b,c,f,d⟩:=(a.below hq).cq;clear m l r p;obtain⟨m,l,r,p⟩:=(a.below hq).fq))
   have L:=Bt j.o.2.2 hq;have K:=j.o.ge 1 rfl;exact BA (v:=.agg #[E bc,C am az ap,E bf,C an ay aq]) (by simp[results,Tryz.results129,go_sem,b,c,f,d]) rfl ⟨_,rfl,y.put4 (a.below hq) rfl rfl rfl rfl _ _ _ _,Jw L K _ _ _ _⟩
 . have D:=J (show YM q=q by
    have M:¬q<0:=λh=>ae (by rw[<-R.o];exact(Tg q).2 h);unfold YM;rw[BC M])
   go_wp2_with(go_at_call 68;refine x.o.mono ?_;clear x;rintro e w1 ⟨rfl,hq⟩;clear t k o s;obtain⟨t,k,o,s⟩:=(z.below hq).cq;clear b c f d;obtain⟨b,c,f,d⟩:=(a.below hq).cq;clear m l r p;obtain⟨m,l,r,p⟩:=(a.below hq).fq)
   have y:=HR.o.below hq;rw[<-D.o]at y;have L:=Bt j.o.2.2 hq;have K:=j.o.ge 1 rfl;exact BA (v:=.agg #[E s1,C a1 l1 c1,E t1,C b1 k1 d1]) (by simp[results,Tryz.results129,go_sem,b,c,f,d]) rfl ⟨_,rfl,y.put4 (a.below hq) rfl rfl rfl rfl _ _ _ _,Jw L K _ _ _ _⟩
theorem gP(va vb:I)(x y:Nat)(w:H)(ha:Jm w va (x:Int))(hb:Jm w vb (y:Int))(hx:0<x)(bc:DY (x:Int))(bf:DY (y:Int)):
 Calls Tryz.prog 97 #[va,vb] w λe w'=>∃u,e=.returned u/\Jm w' u ((Nat.lcm x y:Nat):Int)/\Bl w w':=by
 have Qj:Tryz.prog.follows .mixedOrders=true:=by kernel_rfl
 have HG:=J (show((Int.gcd x y:Nat):Int)≠0 by have:=Nat.gcd_pos_of_pos_left y hx;exact Int.natCast_ne_zero.2 (by show Nat.gcd x y≠0;omega));obtain⟨aw,af,ap,aj,rfl⟩:=Jm.form2 ha;obtain⟨ay,ah,aq,ak,rfl⟩:=Jm.form2 hb;have P:=((((Mem.nil w).push (.int ((x:Int))) ha).push (.int ((y:Int))) (Has.alloc (d:=.int ((y:Int))) hb _)).push (.int 0) (ET _));simp only[A1]at P;have P:Mem w (((w.alloc (G #[E aw,C af ap aj] 63)).alloc (G #[E ay,C ah aq ak] 63)).alloc (G #[E false,C none 0 0] 63)) [some (w.heap.size,.int ((x:Int))),some (w.heap.size+1,.int ((y:Int))),some (w.heap.size+1+1,.int 0)]:=P;obtain⟨W0,am⟩:=ex (((w.alloc (G #[E aw,C af ap aj] 63)).alloc (G #[E ay,C ah aq ak] 63)).alloc (G #[E false,C none 0 0] 63));have Qg:=J am;rw[am]at P;have M1:Hid (Mem w W0 [some (w.heap.size,.int ((x:Int))),some (w.heap.size+1,.int ((y:Int))),some (w.heap.size+1+1,.int 0)]):=J P;have Qc:=J bc;have Qa:=J bf;clear P am ha hb bc bf;go_enter Tryz.func97,Tryz.ntmps97
 go_upto_region 1 with fail
 rw[Qg.o];clear Qg;clear hx;refine Jl Qj [[],[],[],[1,2],[0,3,3],[4],[5],[5],[5],[],[],[9,6,4,0,1,2,3,4,5,6,9,10],[10,7,11,0,1,2,3,4,5,6,7,9,10,11],[8,12,0,1,2,3,4,5,6,7,8,9,10,11,12]] (by kernel_rfl) DP
  (λD ai V=>∃(tm ta tb tc td tl te tf tg ti tj tk:I) (S R:Option (Nat × Dat)),ai={ tmps:=#[.agg #[E aw,C af ap aj],.agg #[E ay,C ah aq ak],F (some ⟨w.heap.size,0,none⟩),F (some ⟨w.heap.size+1,0,none⟩),F (some ⟨w.heap.size+1+1,0,none⟩),ti,tj,tk,tl,tm,ta,tb,tc,td,te,tf,tg,undef,undef,undef],defers:=[] }/\Hid ((D 0=true->Has V tm (.int ((y:Int))))/\(D 1=true->Has V ta (.int ((x:Int))))/\(D 2=true->Has V tb (.int ((y:Int))))/\(D 3=true->Has V tc (.int (((Int.gcd x y:Nat):Int))))/\(D 4=true->Tup2 V td (.int ((y:Int)/((Int.gcd x y:Nat):Int))) (.int ((y:Int)%((Int.gcd x y:Nat):Int))))/\(D 5=true->Tup2 V tl (.int ((y:Int)/((Int.gcd x y:Nat):Int))) (.int ((y:Int)%((Int.gcd x y:Nat):Int))))/\(D 6=true->Has V te (.int ((y:Int)/((Int.gcd x y:Nat):Int))))/\(D 7=true->Has V tf (.int ((y:Int)%((Int.gcd x y:Nat):Int))))/\(D 8=true->tg=E true)/\((D 9=false->S=none)/\(D 9=true->D 11=false->∃B:Nat,ti=F (some ⟨B,0,none⟩)/\S=some (B,.int 0))/\(D 11=true->∃B:Nat,ti=F (some ⟨B,0,none⟩)/\S=some (B,.int ((y:Int)/((Int.gcd x y:Nat):Int)))))/\((D 10=false->R=none)/\(D 10=true->D 12=false->∃B:Nat,tj=F (some ⟨B,0,none⟩)/\R=some (B,.int 0))/\(D 12=true->∃B:Nat,tj=F (some ⟨B,0,none⟩)/\R=some (B,.int ((y:Int)%((Int.gcd x y:Nat):Int)))))/\(D 13=true->tk=E true))/\Hid (Mem w V [some (w.heap.size,.int ((x:Int))),some (w.heap.size+1,.int ((y:Int))),some (w.heap.size+1+1,.int 0),S,R]))
  ⟨_,_,_,_,_,_,_,_,_,_,_,_,none,none,rfl,J ⟨Y,Y,Y,Y,Y,Y,Y,Y,Y,Y,Y,Y⟩,J (((M1.o).none).none).drew⟩ ?step1 ?fin1
 case step1=>
  rintro D ai V i ds az hi f Q ⟨tm,ta,tb,tc,td,tl,te,tf,tg,ti,tj,tk,S,R,rfl,b,g⟩;have ci:i<14:=(Ac.1 hi).1;obtain rfl|rfl|rfl|rfl|rfl|rfl|rfl|rfl|rfl|rfl|rfl|rfl|rfl|rfl:=GD i O
  all_goals
   simp only[Af,Ae,Ag]at hi;subst hi
  . clear f;obtain⟨s,a,l,c,n,i⟩:=g.o.int (i:=1) rfl;obtain⟨e0,e1⟩:=n.cp;refine Za ?_;exact⟨_,_,_,_,_,_,_,_,_,_,_,_,_,_,rfl,(Dh b λ_=>i),J (g.o)⟩
  . clear f;obtain⟨s,a,l,c,n,i⟩:=g.o.int (i:=0) rfl;obtain⟨e0,e1⟩:=n.cp;refine Za ?_;exact⟨_,_,_,_,_,_,_,_,_,_,_,_,_,_,rfl,(Dp b λ_=>i),J (g.o)⟩
  . clear f;obtain⟨s,a,l,c,n,i⟩:=g.o.int (i:=1) rfl;obtain⟨e0,e1⟩:=n.cp;refine Za ?_;exact⟨_,_,_,_,_,_,_,_,_,_,_,_,_,_,rfl,(Dg b λ_=>i),J (g.o)⟩
  . have N:=(b.o.2.1 (f 1 Y));have A:=(b.o.2.2.1 (f 2 Y));have HC:=J (KP _ _ (x:Int) (y:Int) V N A (by have:=Qc.o.words;omega) (by have:=Qa.o.words;omega));clear f N A;refine Jb rfl rfl λK hK=>?_;go_simp;go_wp2_with(go_at_call 90;refine HC.o.mono ?_;rintro e w5 ⟨v5,rfl,an,j⟩)
    obtain⟨k,m,o,_,M,q,r,t,z⟩:=b.o;exact⟨_,_,_,_,_,_,_,_,_,_,_,_,_,_,rfl,J ⟨λh=>(k h).below j,λh=>(m h).below j,λh=>(o h).below j,λ_=>an,λh=>(M h).below j,λh=>(q h).below j,λh=>(r h).below j,λh=>(t h).below j,z⟩,J (g.o.below j)⟩
  . have N:=(b.o.1 (f 0 Y));have A:=(b.o.2.2.2.1 (f 3 Y));have HC:=J (Rx _ _ (y:Int) ((Int.gcd x y:Nat):Int) V N A HG.o (by have:=Qa.o.words;omega) (by have:=(Qc.o.gcd Qa.o).words;omega));clear f N A;refine Jb rfl rfl λK hK=>?_;go_simp;go_wp2_with(go_at_call 123;refine HC.o.mono ?_;rintro e w5 ⟨v5,v6,rfl,an,bj,j⟩)
    obtain⟨k,m,o,L,_,q,r,t,z⟩:=b.o;exact⟨_,_,_,_,_,_,_,_,_,_,_,_,_,_,rfl,J ⟨λh=>(k h).below j,λh=>(m h).below j,λh=>(o h).below j,λh=>(L h).below j,λ_=>⟨v5,v6,rfl,an,bj⟩,λh=>(q h).below j,λh=>(r h).below j,λh=>(t h).below j,z⟩,J (g.o.below j)⟩
  . have N:=(b.o.2.2.2.2.1 (f 4 Y));clear f;refine Za ?_;exact⟨_,_,_,_,_,_,_,_,_,_,_,_,_,_,rfl,(D0 b λ_=>N),J (g.o)⟩
  . obtain⟨y1,y2,rfl,A,h2⟩:=((Dq b) (f 5 Y));clear f;refine Za ?_;exact⟨_,_,_,_,_,_,_,_,_,_,_,_,_,_,rfl,(Dx b λ_=>A),J (g.o)⟩
  . obtain⟨y1,y2,rfl,A,h2⟩:=((Dq b) (f 5 Y));clear f;refine Za ?_;exact⟨_,_,_,_,_,_,_,_,_,_,_,_,_,_,rfl,(EC b λ_=>h2),J (g.o)⟩
  . obtain⟨y1,y2,rfl,A,h2⟩:=((Dq b) (f 5 Y));clear f;refine Za ?_;exact⟨_,_,_,_,_,_,_,_,_,_,_,_,_,_,rfl,(EK b),J (g.o)⟩
  . have hf:D 11=false:=DQ az Q;obtain rfl:=b.o.2.2.2.2.2.2.2.2.2.1.1 Q;clear f;refine Za ?_;obtain⟨k,m,o,L,M,q,r,t,z,_,ad⟩:=b.o;exact⟨_,_,_,_,_,_,_,_,_,_,_,_,_,_,rfl,J ⟨λh=>(k h).alloc _,λh=>(m h).alloc _,λh=>(o h).alloc _,λh=>(L h).alloc _,λh=>(M h).alloc _,λh=>(q h).alloc _,λh=>(r h).alloc _,λh=>(t h).alloc _,z,⟨λh=>by simp at h,λ_ _=>⟨_,rfl,rfl⟩,λh=>by simp[hf]at h⟩,ad⟩,J (g.o.fill (i:=3) rfl (.int 0) (ET _))⟩
  . have hf:D 12=false:=DQ az Q;obtain rfl:=b.o.2.2.2.2.2.2.2.2.2.2.1.1 Q;clear f;refine Za ?_;obtain⟨k,m,o,L,M,q,r,t,z,G9,_,ae⟩:=b.o;exact⟨_,_,_,_,_,_,_,_,_,_,_,_,_,_,rfl,J ⟨λh=>(k h).alloc _,λh=>(m h).alloc _,λh=>(o h).alloc _,λh=>(L h).alloc _,λh=>(M h).alloc _,λh=>(q h).alloc _,λh=>(r h).alloc _,λh=>(t h).alloc _,z,G9,⟨λh=>by simp at h,λ_ _=>⟨_,rfl,rfl⟩,λh=>by simp[hf]at h⟩,ae⟩,J (g.o.fill (i:=4) rfl (.int 0) (ET _))⟩
  . obtain⟨B,rfl,rfl⟩:=b.o.2.2.2.2.2.2.2.2.2.1.2.1 (f 9 Y) Q;have Qb:=f 9 Y;have W:=((Ds b) (f 6 Y));obtain⟨s1,a1,l1,c1,rfl⟩:=Jm.form2 (show Jm V _ _ from W);obtain⟨s,a,l,c,n,i⟩:=g.o.int (i:=3) rfl;have e0:=n.c0;have f0:=n.f0;have e1:=n.c1;have f1:=n.f1;clear f;refine Za ?_;obtain⟨k,m,o,L,M,q,r,t,z,_,ad⟩:=b.o;exact⟨_,_,_,_,_,_,_,_,_,_,_,_,_,_,rfl,J ⟨λh=>(k h).set2 n rfl rfl _ _,λh=>(m h).set2 n rfl rfl _ _,λh=>(o h).set2 n rfl rfl _ _,λh=>(L h).set2 n rfl rfl _ _,λh=>(M h).set2 n rfl rfl _ _,λh=>(q h).set2 n rfl rfl _ _,λh=>(r h).set2 n rfl rfl _ _,λh=>(t h).set2 n rfl rfl _ _,z,⟨λh=>by simp[Qb]at h,λ_ h=>by simp at h,λ_=>⟨B,rfl,rfl⟩⟩,ad⟩,J (g.o.putInt (i:=3) rfl W)⟩
  . obtain⟨B,rfl,rfl⟩:=b.o.2.2.2.2.2.2.2.2.2.2.1.2.1 (f 10 Y) Q;have Qb:=f 10 Y;have W:=((Du b) (f 7 Y));obtain⟨s1,a1,l1,c1,rfl⟩:=Jm.form2 (show Jm V _ _ from W);obtain⟨s,a,l,c,n,i⟩:=g.o.int (i:=4) rfl;have e0:=n.c0;have f0:=n.f0;have e1:=n.c1;have f1:=n.f1;clear f;refine Za ?_;obtain⟨k,m,o,L,M,q,r,t,z,G9,_,ae⟩:=b.o;exact⟨_,_,_,_,_,_,_,_,_,_,_,_,_,_,rfl,J ⟨λh=>(k h).set2 n rfl rfl _ _,λh=>(m h).set2 n rfl rfl _ _,λh=>(o h).set2 n rfl rfl _ _,λh=>(L h).set2 n rfl rfl _ _,λh=>(M h).set2 n rfl rfl _ _,λh=>(q h).set2 n rfl rfl _ _,λh=>(r h).set2 n rfl rfl _ _,λh=>(t h).set2 n rfl rfl _ _,z,G9,⟨λh=>by simp[Qb]at h,λ_ h=>by simp at h,λ_=>⟨B,rfl,rfl⟩⟩,ae⟩,J (g.o.putInt (i:=4) rfl W)⟩
  . obtain rfl:=((D5 b) (f 8 Y));clear f;refine Za ?_;exact⟨_,_,_,_,_,_,_,_,_,_,_,_,_,_,rfl,(KE (EK b)),J (g.o)⟩
 rintro D ai V2 U ⟨tm,ta,tb,tc,td,tl,te,tf,tg,ti,tj,tk,S,R,rfl,b,g⟩;obtain⟨B3,rfl,rfl⟩:=b.o.2.2.2.2.2.2.2.2.2.1.2.2 (U 11 DP);obtain⟨B4,rfl,rfl⟩:=b.o.2.2.2.2.2.2.2.2.2.2.1.2.2 (U 12 DP);obtain rfl:=D5 b (U 8 DP);obtain rfl:=b.o.2.2.2.2.2.2.2.2.2.2.2 (U 13 DP);clear b U M1;have T:Hid (Mem w V2 [some (w.heap.size,.int ((x:Int))),some (w.heap.size+1,.int ((y:Int))),some (w.heap.size+1+1,.int 0),some (B3,.int ((y:Int)/((Int.gcd x y:Nat):Int))),some (B4,.int ((y:Int)%((Int.gcd x y:Nat):Int)))]):=g;clear g;obtain⟨s5,a5,l5,c5,n5,i5⟩:=T.o.int (i:=0) rfl;obtain⟨bn,bt⟩:=n5.cp;obtain⟨s6,a6,l6,c6,n6,i6⟩:=T.o.int (i:=3) rfl;obtain⟨bu,ce⟩:=n6.cp;obtain⟨s7,a7,l7,c7,X,i7⟩:=T.o.int (i:=2) rfl;obtain⟨Qe,Qd⟩:=X.cp;obtain⟨Qi,Qh⟩:=X.fp;have H1:=J (Xz _ _ (x:Int) ((y:Int)/((Int.gcd x y:Nat):Int)) V2 i5 i6 (by have A:=Qc.o.words;have h2:=(Qa.o.div (y:=((Int.gcd x y:Nat):Int))).words;omega));rw[gM]at H1;go_wp2_with(go_at_call 85;refine H1.o.mono ?_;clear H1;rintro e w2 ⟨u2,rfl,bg,hq⟩;obtain⟨bm,bh,bk,bi,rfl⟩:=Jm.form2 bg;clear Qe Qd;obtain⟨Qe,Qd⟩:=(X.below hq).cp;clear Qi Qh;obtain⟨Qi,Qh⟩:=(X.below hq).fp)
 have Qk:=Bt T.o.2.2 hq;have Qf:=T.o.ge 2 rfl;exact BA (v:=.agg #[E bm,C bh bk bi]) (by simp[results,Tryz.results97,go_sem,Qe,Qd]) rfl ⟨_,rfl,bg.box (X.below hq) rfl rfl,(Qk.setCell (p:=⟨_,0,none⟩) Qf _).setCell (p:=⟨_,1,none⟩) Qf _⟩
def KY(F:Nat->Rat)(n i:Nat)(S:List Rat):Prop:=S.length=n/\∀j,cf S j=if j<i then F j else 0
theorem KY.next{F:Nat->Rat}(h:KY F n i S)(b:i<n):KY F n (i+1) (S.set i (F i)):=by
 refine⟨by rw[Cx];exact h.1,λj=>?_⟩;rw[XU _ _ _ _ (by rw[h.1];exact b),h.2 j];by_cases e:j=i
 . rw[BG e,BG O,e]
 . rw[BC e];by_cases a:j<i
   . rw[BG a,BG O]
   . rw[BC a,BC O]
theorem KY.done{F:Nat->Rat}{T:List Rat}(h:KY F n n S)(b:Jc T=T)(hF:∀j,j<n->cf T j=F j)(a:∀j,n<=j->cf T j=0):Jc S=T:=by
 rw[<-b];refine YG λj=>?_;rw[h.2 j];split
 . exact(hF j (by assumption)).symm
 . exact(a j O).symm
theorem Tj(v vf:I)(ps:List Rat)(f:Rat)(w:H)(h:Jh w v ps)(hf:Jk w vf f)(aq:DZ ps)(aw:Sq f)(ay:∀i,Sq (cf ps i*f)):
 Calls Tryz.prog 98 #[v,vf] w λe w'=>∃u,e=.returned u/\Jh w' u (Df f ps)/\Bl w w':=by
 have Qq:Tryz.prog.follows .mixedOrders=true:=by kernel_rfl
 obtain⟨x,la,y,rfl⟩:=h.form;obtain⟨s,a,l,c,t,b,k,d,rfl⟩:=Jk.form hf;obtain⟨bf,az,bc,bg,_⟩:=h.row.forms;have M0:=((((Mem.nil w).push (.cell 25 (C x la y)) (cs:=#[C x la y]) ⟨rfl,rfl⟩).push (.rat f) (cs:=#[E s,C a l c,E t,C b k d]) (Has.alloc (d:=.rat f) hf _)).push (.cell 25 (C none 0 0)) (cs:=#[C none 0 0]) ⟨rfl,rfl⟩);simp only[A1]at M0;obtain⟨V0,ae⟩:=ex (((w.alloc (G #[C x la y] 25)).alloc (G #[E s,C a l c,E t,C b k d] 65)).alloc (G #[C none 0 0] 25));have M1:Mem w V0 [some (w.heap.size,.cell 25 (C x la y)),some (w.heap.size+1,.rat f),some (w.heap.size+1+1,.cell 25 (C none 0 0))]:=by rw[<-ae];exact M0
 have Qh:=J M1;obtain⟨n,hn⟩:=ex (ps.length:Nat);obtain⟨P,an⟩:=ex ((n:Int)-1:Int);have Qg:=J (YE (.agg #[C x la y]) ps V0 (h.below M1.2.2));rw[hn,an]at Qg;have bh:P+1=(n:Int):=O
 have bi:IntKind.i64.wrap (n:Int)=(n:Int):=by rw[BS];omega
 have Qr:∀W:H,(Instr.makeSlice 22 (B .i64 (n:Int)) (B .i64 (n:Int))).run Tryz.prog W=.ok (C (some ⟨W.heap.size,0,none⟩) n n) (W.alloc (G (Yo n) 65)):=λW=>Th n O W;obtain⟨HP,Ql,Qm,HN⟩:=D9 (λ(V:H) (hB:Bl w V)=>h.below hB) aq ay (show ps.length=n from hn);have Qd:n<=1099511627776:=O
 have Qj:=J ae;have Qo:=J aw;clear h aq ay bf az bc hn an M0 M1 ae bg hf aw;go_enter Tryz.func98,Tryz.ntmps98
 go_upto_region 1 with fail
 rw[Qj.o];have c0:=(Qh.o.cell (i:=0) rfl).1.cell;go_upto_region 2 with(go_at_call 20;refine Qg.o.mono ?_;clear Qg;rintro e w1 ⟨rfl,am⟩)
 have Qe:Mem w (w1.alloc (G (Yo n) 65)) [some (w.heap.size,.cell 25 (C x la y)),some (w.heap.size+1,.rat f),some (w.heap.size+1+1,.cell 25 (C none 0 0)),some (w1.heap.size,.rats (List.replicate n 0))]:=(Qh.o.below am).push (.rats (List.replicate n 0)) (Lj _ n);obtain⟨V1,af⟩:=ex (w1.alloc (G (Yo n) 65));obtain⟨A,ah⟩:=ex (w1.heap.size);rw[af,ah]at Qe;rw[af,ah];have Qi:=J Qe;clear Qe af ah am c0 Qh Qj Qr;go_wp2;go_loopw [13] (λiv wr=>∃(i:Nat) (S:List Rat),i<=n/\iv=B .i64 (i:Int)/\Hid (KY (λj=>cf ps j*f) n i S)/\Hid (Mem w wr [some (w.heap.size,.cell 25 (C x la y)),some (w.heap.size+1,.rat f),some (w.heap.size+1+1,.cell 25 (C none 0 0)),some (A,.rats S)])) λiv _=>n-(intOf iv).toNat
 case atStart=>exact⟨0,_,AC _,rfl,J ⟨Av,λj=>by rw[JW,BC O]⟩,Qi⟩
 case round=>
  obtain⟨i,S,hi,rfl,M,U⟩:=hrel;clear Qi;by_cases ap:i<n
  . have bk:(i:Int)<(n:Int):=O
    have Qk:=J (show i<S.length by rw[M.o.1];exact ap);go_wp2_with fail
    have Qn:=U.o.drew;refine Jl Qq [[],[],[],[],[2,3],[],[4,5,4],[0,1,0,1,2,3,4,5,6],[7,6,6,0,1,2,3,4,5,6]] (by kernel_rfl) DP
     (λD ad V=>∃(ta tb tc td te tf tg ti:I),ad={ tmps:=#[.agg #[C x la y],.agg #[E s,C a l c,E t,C b k d],F (some ⟨w.heap.size,0,none⟩),F (some ⟨w.heap.size+1,0,none⟩),F (some ⟨w.heap.size+1+1,0,none⟩),C (some ⟨A,0,none⟩) n n,B .i64 ↑i,.agg #[C x la y],B .i64 P,B .i64 ↑n,C (some ⟨A,0,none⟩) n n,C (some ⟨A,0,none⟩) n n,B .i64 ↑n,B .i64 ↑i,E true,B .i64 ↑i,ta,tb,tc,td,te,tf,tg,ti,u24,undef,undef],defers:=[] }/\Hid ((D 0=true->ta=C (some ⟨A,0,none⟩) n n)/\(D 1=true->tb=B .i64 (i:Int))/\(D 2=true->tc=.agg #[C x la y])/\(D 3=true->td=B .i64 (i:Int))/\(D 4=true->D 8=false->Jk V te (cf ps i))/\(D 5=true->D 8=false->Jk V tf f)/\(D 6=true->D 8=false->Jk V tg (cf ps i*f))/\(D 7=true->ti=F (some ⟨A,i*4,none⟩)))/\Hid ((D 8=false->Mem w V [some (w.heap.size,.cell 25 (C x la y)),some (w.heap.size+1,.rat f),some (w.heap.size+1+1,.cell 25 (C none 0 0)),some (A,.rats S)])/\(D 8=true->Mem w V [some (w.heap.size,.cell 25 (C x la y)),some (w.heap.size+1,.rat f),some (w.heap.size+1+1,.cell 25 (C none 0 0)),some (A,.rats (S.set i (cf ps i*f)))])))
     (E8 ⟨rfl,J Y,J ⟨λ_=>Qn,Y⟩⟩) ?step1 ?fin1
    case step1=>
     rintro D ad V i ds X hi o N ⟨ta,tb,tc,td,te,tf,tg,ti,rfl,g,m⟩;have bj:i<9:=(Ac.1 hi).1;obtain rfl|rfl|rfl|rfl|rfl|rfl|rfl|rfl|rfl:=UU i O
     all_goals
      simp only[Af,Ae,Ag]at hi;subst hi
     . clear o;refine DS ?_;exact⟨(Dh g),m⟩
     . clear o;refine DS ?_;exact⟨(Dp g),m⟩
     . have z:=m.o.1 (DQ X N);have P:=(z.cell (i:=0) rfl).1.cell;clear o;refine DS ?_;exact⟨(Dg g),m⟩
     . clear o;refine DS ?_;exact⟨(Dl g),m⟩
     . have z:=m.o.1 (DQ X N);obtain rfl:=g.o.2.2.1 (o 2 Y);obtain rfl:=g.o.2.2.2.1 (o 3 Y);clear o;have R:=J (Km _ ps (i:Int) V (HP.o V z.2.2));rw[K6]at R;refine Jb rfl rfl λK hK=>?_;go_simp;go_wp2_with(go_at_call 58;refine R.o.mono ?_;rintro e w5 ⟨v5,rfl,aj,q⟩)
       obtain⟨G0,G1,_,_,_,G5,G6,G7⟩:=g.o;exact E8 ⟨rfl,J ⟨G0,G1,λ_=>rfl,λ_=>rfl,λ_ _=>aj,λh L=>(G5 h L).below q,λh L=>(G6 h L).below q,G7⟩,J ⟨λh=>(m.o.1 h).below q,λh=>(m.o.2 h).below q⟩⟩
     . have z:=m.o.1 (DQ X N);obtain⟨x1,x2,x3,x4,x5,x6,x7,x8,n,r,_,_⟩:=z.rat (i:=1) rfl;obtain⟨P,e1,e2,e3⟩:=n.cq;clear o;refine DS ?_;exact⟨(D0 g λ_ _=>r),m⟩
     . have Qa:D 8=false:=DQ X N;have Q:=g.o.2.2.2.2.1 (o 4 Y) Qa;have h1:=Dq g (o 5 Y) Qa;clear o;have R:=J (LY _ _ (cf ps i) f V Q h1 (Ql.o.at i) Qo.o);clear Q h1;refine Jb rfl rfl λK hK=>?_;go_simp;go_wp2_with(go_at_call 52;refine R.o.mono ?_;rintro e w5 ⟨v5,rfl,aj,q⟩)
       obtain⟨G0,G1,G2,G3,G4,G5,_,G7⟩:=g.o;exact E8 ⟨rfl,J ⟨G0,G1,G2,G3,λh L=>(G4 h L).below q,λh L=>(G5 h L).below q,λ_ _=>aj,G7⟩,J ⟨λh=>(m.o.1 h).below q,λh=>(m.o.2 h).below q⟩⟩
     . obtain rfl:=g.o.1 (o 0 Y);obtain rfl:=g.o.2.1 (o 1 Y);clear o;refine DS ?_;exact⟨(MW (Dp (Dh g))),m⟩
     . have z:=m.o.1 N;have Q:=Ds g (o 6 Y) N;obtain rfl:=g.o.2.2.2.2.2.2.2 (o 7 Y);have hE:=z.rats (i:=3) rfl;obtain⟨xa,xb,xc,xd,P,e1,e2,e3,_⟩:=hE.at Qk.o;have f0:=hE.frozen (i*4);have f1:=hE.frozen (i*4+1);have f2:=hE.frozen (i*4+2);have f3:=hE.frozen (i*4+3);obtain⟨s9,a9,l9,c9,t9,b9,k9,d9,rfl⟩:=Jk.form Q;clear o;refine DS ?_;exact⟨J ⟨g.o.1,g.o.2.1,g.o.2.2.1,g.o.2.2.2.1,λ_ h=>by simp at h,λ_ h=>by simp at h,λ_ h=>by simp at h,λ_=>rfl⟩,J ⟨λh=>by simp at h,λ_=>z.putRats (i:=3) rfl Qk.o Q⟩⟩
    case fin1=>
     rintro D ad V ak ⟨ta,tb,tc,td,te,tf,tg,ti,rfl,g,m⟩;have HO:=J (m.o.2 (ak 8 DP));clear g m ak;go_wp2_with fail
     go_roundw
     case rel=>exact⟨i+1,_,O,by go_num,J (M.o.next ap),HO⟩
     case measure=>simp[intOf];omega
  . obtain rfl:i=n:=O
    have hE:=U.o.rats (i:=3) rfl;have Qc:=hE.row (n:=i) (cap:=i) (by rw[M.o.1];exact Aa _) (Aa _) O Qd;rw[Ad (by rw[M.o.1];exact Aa _)]at Qc;have Qf:=J (SJ _ S wr Qc (DZ.of λj=>by
     rw[M.o.2 j];split
     . exact Qm.o j
     . exact KQ))
    rw[M.o.done (T:=Df f ps) (JV _ _) (λj hj=>Yv _ _ _) λj hj=>by rw[Yv,JZ (by rw[HN.o];exact hj),Cu]]at Qf;clear hE Qc;go_wp2_with(go_at_call 59;refine Qf.o.mono ?_;clear Qf;rintro e w5 ⟨u5,rfl,ai,_,q⟩;obtain⟨a7,l7,c7,rfl⟩:=ai.form;have n5:=boxed_below (U.o.cell (i:=2) rfl).1 q;have x0:=n5.cell;have x1:=n5.frozen;have Qs:=J (F8 n5 (C a7 l7 c7) ai.row);have Qp:=J ((Bt U.o.2.2 q).setCell (p:=⟨w.heap.size+1+1,0,none⟩) (by show w.heap.size<=w.heap.size+1+1;omega) (C a7 l7 c7));clear ai q n5)
    exact BA (v:=.agg #[C a7 l7 c7]) (by simp[results,Tryz.results98,go_sem,x0]) rfl ⟨_,rfl,⟨_,rfl,Qs.o⟩,Qp.o⟩
