import Derived.Test.YteldjhhjnchdeaaGreatDoorT43
open Go.Value renaming slice->C,bool->E,pointer->F,int->B
open Go.Obj renaming cells->G
open Go renaming World->H,Value->I
set_option maxRecDepth 100000
set_option maxHeartbeats 16000000
namespace Go.Proofs.YteldjhhjnchdeaaGreatDoor
open Go.RowKit Go.Shelf
attribute [local go_sem] Oper.semAt_some
def lenOf:I->Nat|C _ l _=>l|_=>0
def LD(w V:H)(b a:I)(Q R:List Rat):Prop:=RowK false V b Q/\RowK false V a R/\Bl w V
theorem LD.below{w V V':H}{c b:I}{Q R:List Rat}(h:LD w V c b Q R)(a:Bl V V'):LD w V' c b Q R:=⟨h.1.below a,h.2.1.below a,Bt h.2.2 a⟩
def LE(w wr V:H)(b a:I)(Q R:List Rat):Prop:=LD w V b a Q R/\Bl wr V
theorem LE.below{w wr V V':H}{c b:I}{Q R:List Rat}(h:LE w wr V c b Q R)(a:Bl V V'):LE w wr V' c b Q R:=⟨h.1.below a,Bt h.2 a⟩
def Hx(S:Nat->List Rat->List Rat->Prop)(la:Nat)(ps qs R Q:List Rat)(k:Nat):Prop:=
 Jd R=R/\Jd Q=Q/\k+R.length<=la/\Q.length<=la/\(∀x,ev ps x=ev qs x*ev Q x+ev R x)/\(∀i,i+qs.length<=R.length->cf Q i=0)/\S k R Q
structure DivS(A la:Nat)(S:Nat->List Rat->List Rat->Prop)(qs:List Rat):Prop where
 next:∀(k:Nat) (R Q:List Rat) (n:Nat) (a:Rat),S k R Q->(∀i,i+qs.length<=R.length->cf Q i=0)->qs.length<=R.length->n=R.length-qs.length->a=cf R (R.length-1)/cf qs (qs.length-1)->
  (∀i,cf (J2 R (JR (Jd (Dn n [a])) qs)) i=cf R i-(if n<=i then a*cf qs (i-n)else 0))->(∀i,cf (EX Q (Jd (Dn n [a]))) i=if i=n then a else cf Q i)->S (k+1) (J2 R (JR (Jd (Dn n [a])) qs)) (EX Q (Jd (Dn n [a])))
 size:∀(k:Nat) (R Q:List Rat),k<=la->S k R Q->Db R/\Db Q/\∃z,z+(2*A+1)<=1000000/\∀i,Df z (cf R i)
variable{ps qs:List Rat}{S:Nat->List Rat->List Rat->Prop}
theorem Hx.start(a:Jd ps=ps)(h:S 0 ps []):Hx S ps.length ps qs ps [] 0:=by
 refine⟨a,rfl,om,DQ,λx=>?_,λi _=>YQ i,h⟩;show _=ev qs x*0+_;grind
theorem Hx.next{A la:Nat}{S:Nat->List Rat->List Rat->Prop}{ps qs R Q:List Rat}{k n:Nat}{a:Rat}(q:DivS A la S qs)(h:Hx S la ps qs R Q k)(j:Jd qs=qs)(d:qs≠[])(hl:qs.length<=R.length)(g:n=R.length-qs.length)
(f:a=cf R (R.length-1)/cf qs (qs.length-1)):Hx S la ps qs (J2 R (JR (Jd (Dn n [a])) qs)) (EX Q (Jd (Dn n [a]))) (k+1):=by
 obtain⟨t,v,w,u,m,c,p⟩:=h;have s:0<qs.length:=Aq.2 d;have l:∀i,cf (J2 R (JR (Jd (Dn n [a])) qs)) i=cf R i-(if n<=i then a*cf qs (i-n)else 0):=λi=>by rw[Kd,MZ]
 have b:∀i,cf (EX Q (Jd (Dn n [a]))) i=if i=n then a else cf Q i:=λi=>by
  rw[O4,MY];split
  . rename_i e;rw[e,c n om,Rat.zero_add]
  . exact FM _
 have r:=SF j d hl g f;refine⟨Iz _ _,IW _ _,om,Xv (IW _ _) (λi o=>?_),λx=>?_,λi o=>?_,q.next k R Q n a p c hl g f l b⟩
 . rw[b,BC om,J4 om]
 . rw[LV,Mz,XR,R9,m x];grind
 . rw[b,BC om];exact c i om
theorem Hx.done{la:Nat}{R Q:List Rat}{k:Nat}(h:Hx S la ps qs R Q k)(a:Jd qs=qs)(b:qs≠[])(hl:R.length<qs.length):Q=Y8 ps qs/\R=J3 ps qs:=by
 obtain⟨c,g,_,_,e,_⟩:=h;obtain⟨i,f,d,j⟩:=YN ps qs a b;exact O1 a b g d c j hl f (λx=>by rw[<-e x,<-i x])
theorem dq(S:Nat->List Rat->List Rat->Prop)(A:Nat)(va vb:I)(ps qs:List Rat)(w:H)(ha:RowK false w va ps)(hb:RowK false w vb qs)(ai:DivS A ps.length S qs)(l:S 0 ps [])(hq:∀i,Df A (cf qs i))(ae:Jd ps=ps)(aq:Jd qs=qs)(ad:qs≠[])(ef:ps.length<=1000):
 Calls Tryz.prog 41 #[va,vb] w λe w'=>∃u v,e=.returned (.tuple #[u,v])/\RowK false w' u (Y8 ps qs)/\RowK false w' v (J3 ps qs)/\Bl w w':=by
 have Uh:Tryz.prog.follows .mixedOrders=true:=by kernel_rfl
 obtain⟨a,la,ca,rfl⟩:=ha.form;obtain⟨b,lb,cb,rfl⟩:=hb.form;obtain⟨fa,eh,ei,f8,_⟩:=ha.formsF;obtain⟨bn,et,ew,bk,s',t',cn,bu,ce,co,ct,bm,ci⟩:=hb.formsF;have Ua:0<qs.length:=Aq.2 ad;have Qj:=Ja (K3 _ ps w ha);rw[ae]at Qj;obtain⟨HB,Un,HQ,Qn,Ql,Qh,Qk,Ug⟩:=Gy ci hb hq aq ad bn ai (JF aq ad);have Qv:=Ja (show Db qs from Db.of λi=>Sq.of (hq i) (by
  obtain⟨_,_,z,h1,_⟩:=ai.size 0 ps [] (AK _) l;omega))
 have Qc:=Ja (Hx.start (qs:=qs) ae l);obtain⟨lp,dt⟩:=ex (ps.length);rw[dt]at Qc Qk;have fj:1<=lb:=om
 have fv:lb<=1099511627776:=bk;have fm:lp<=1000:=om
 clear ha hb l ai hq ae aq ad fa bn eh ei et ew f8 bk ci Ua ef dt;go_enter Tryz.func41,Tryz.ntmps41
 go_wp2_with(go_at_call 45;refine Qj.o.mono ?_;clear Qj;rintro e w0 ⟨u0,rfl,Z,cj⟩;obtain⟨a0,l0,c0,rfl⟩:=Z.form)
 go_loopw [6,7,8] (λqv rv _ wr=>∃(k lr:Nat) (Q R:List Rat),(∃ra rc,rv=C ra lr rc)/\(∃N W T,qv=C N W T)/\lr<=1000/\Hid (lr=R.length)/\Hid (LD w wr qv rv Q R)/\Hid (Hx S lp ps qs R Q k)) (λ_ rv _ _=>lenOf rv)
 case atStart=>exact⟨0,_,[],ps,⟨_,_,rfl⟩,⟨_,_,_,rfl⟩,by obtain⟨_,_,e,_⟩:=id Z;cases e;have:=Qc.o.2.2.1;omega,Ja (by obtain⟨_,_,e,_⟩:=id Z;cases e;rfl),Ja ⟨RowK.nil _ _,Z,cj⟩,Qc⟩
 case round=>
  clear Z cj Qc;obtain⟨k,lr,Q,R,⟨ra,rc,rfl⟩,⟨N,W,T,rfl⟩,fh,P,HX,Y⟩:=hrel;by_cases fo:lb<=lr
  . have Qi:(lb:Int)<=(lr:Int):=om
    obtain⟨n,hn⟩:=ex (lr-lb:Nat);obtain⟨m,hm⟩:=ex (lr-1:Nat);obtain⟨g,dz⟩:=ex (lb-1:Nat);have fe:(lr:Int)-(lb:Int)=(n:Int):=om
    have fk:(lr:Int)-1=(m:Int):=om
    have fl:(lb:Int)-1=(g:Int):=om
    have fi:IntKind.i64.wrap (n:Int)=(n:Int):=by rw[BS];omega
    have ff:IntKind.i64.wrap (m:Int)=(m:Int):=by rw[BS];omega
    have fs:IntKind.i64.wrap (g:Int)=(g:Int):=by rw[BS];omega
    have ft:(m:Int)<(lr:Int):=om
    have fg:(g:Int)<(lb:Int):=om
    have L:=Ja (show n=R.length-qs.length/\m=R.length-1/\g=qs.length-1/\qs.length<=R.length by have:=P.o;have:=Qh.o;omega);have Qf:=Ja (show n<1099511627775/\n+1<=1001 by omega);obtain⟨ed,fc,fb,f9,s,t,aa,bb,ll,cc,kk,dd,di⟩:=HX.o.2.1.formsF;clear ed fc fb f9;obtain⟨cl,o,rfl,X,dj,dh,bt,dx⟩:=di m om;obtain⟨bi,q,rfl,J,de,ck,dw,dp⟩:=HB.o g om;have Qg:=Ja (show ∀V,Bl wr V->(V.cell? ⟨o,m*4,none⟩=some (C (aa m) (ll m) (cc m))/\V.cell? ⟨o,m*4+1,none⟩=some (E (s m))/\V.cell? ⟨o,m*4+2,none⟩=some (C (bb m) (kk m) (dd m))/\V.cell? ⟨o,m*4+3,none⟩=some (E (t m)))/\Js V (.agg #[C (aa m) (ll m) (cc m),E (s m),C (bb m) (kk m) (dd m),E (t m)]) (cf R m)from λV r=>by
     exact⟨⟨(r.cell (p:=⟨o,_,none⟩) X).trans dj,(r.cell (p:=⟨o,_,none⟩) X).trans dh,(r.cell (p:=⟨o,_,none⟩) X).trans bt,(r.cell (p:=⟨o,_,none⟩) X).trans dx⟩,cl.below r⟩)
    have Qe:=Ja (show ∀V,Bl w V->(V.cell? ⟨q,g*4,none⟩=some (C (cn g) (ce g) (co g))/\V.cell? ⟨q,g*4+1,none⟩=some (E (s' g))/\V.cell? ⟨q,g*4+2,none⟩=some (C (bu g) (ct g) (bm g))/\V.cell? ⟨q,g*4+3,none⟩=some (E (t' g)))/\Js V (.agg #[C (cn g) (ce g) (co g),E (s' g),C (bu g) (ct g) (bm g),E (t' g)]) (cf qs g)from λV r=>by
     exact⟨⟨(r.cell (p:=⟨q,_,none⟩) J).trans de,(r.cell (p:=⟨q,_,none⟩) J).trans ck,(r.cell (p:=⟨q,_,none⟩) J).trans dw,(r.cell (p:=⟨q,_,none⟩) J).trans dp⟩,bi.below r⟩)
    obtain⟨sR,sQ,z,hz,du⟩:=Qk.o.size k R Q (by have:=Y.o.2.2.1;omega) Y.o.2.2.2.2.2.2;obtain⟨x,hx⟩:=ex (cf R m/cf qs g);have Qs:=Ja (show x=cf R (R.length-1)/cf qs (qs.length-1)by rw[<-hx,<-L.o.2.1,<-L.o.2.2.1]);have Qu:=Ja (show cf qs g≠0 by rw[L.o.2.2.1];exact Ug.o);have Qd:Df (z+A) x:=by rw[<-hx];exact(du m).div2 (HQ.o g) Qu.o
    obtain⟨Ue,Qq,Qt,Uk,Ub,Uf,Qx⟩:=Lt (show Sq x from Sq.of Qd om) (show ∀j,Sq (x*cf qs j)from λj=>Sq.of (Qd.mul2 (HQ.o j)) om) sR sQ hx (Y.o.next Qk.o Qn.o Ql.o L.o.2.2.2 L.o.1 Qs.o) (SF Qn.o Ql.o L.o.2.2.2 L.o.1 Qs.o);have Qw:=Ja (show Db (Jd (Dn n [x]))from Db.of λi=>by
     rw[MY];split
     . exact Ue.o
     . exact Sq.of (Df.zero 1 om) om)
    have Qy:=Ja (show Db (JR (Jd (Dn n [x])) qs)from Db.of λi=>by
     rw[MZ];split
     . exact Qq.o _
     . exact Sq.of (Df.zero 1 om) om)
    have Ui:=Ja (show M3.X2 (Jd (Dn n [x])) qs from dC (n:=n) (λi O=>by rw[MY,BC O]) (λj=>by rw[MY,BG rfl];exact Qq.o j));have Qo:=Ja (dB n x);have Ud:=Ja (show(JR (Jd (Dn n [x])) qs).length<1099511627776 by
     have h1:(JR (Jd (Dn n [x])) qs).length<=R.length:=Xv (XH _ _) (λi O=>by
      rw[MZ];split
      . rw[J4 (p:=qs) (by have:=L.o;omega),FV]
      . rfl)
     have:=P.o;omega)
    have Qr:=Ja (show Q.length<1099511627776/\R.length<1099511627776 by have:=Y.o.2.2.2.1;have:=P.o;omega);clear cl X dj dh bt dx bi J de ck dw dp di hz du sR sQ hx Qd hn hm dz;go_wp2_with fail
    have Um:LE w wr wr.drew (C N W T) (C (some ⟨o,0,none⟩) lr rc) Q R:=⟨HX.o.below ((BB _ wr).drew),(BB _ wr).drew⟩;refine Jk Uh [[],[0],[],[2],[1,3],[],[],[6],[7],[5,8],[9],[],[],[12],[13],[11,14],[15],[10,16],[4,17,17],[18,18,0,1,2,3,4,5,6,7,8,9,10,11,12,13,14,15,16,17,18]] (by kernel_rfl) DS
     (λD aw V=>∃(ta tb tc td te tf tg ti tj tk tl tm tn tp tq tr ts tt tu tv:I),aw={ tmps:=#[C a la ca,C (some ⟨q,0,none⟩) lb cb,undef,undef,C none 0 0,C none 0 0,C N W T,C (some ⟨o,0,none⟩) lr rc,tv,C a la ca,C a0 l0 c0,C (some ⟨o,0,none⟩) lr rc,B .i64 ↑lr,C (some ⟨q,0,none⟩) lb cb,B .i64 ↑lb,E true,ta,tb,tc,td,te,tf,tg,ti,tj,tk,tl,tm,tn,tp,tq,tr,ts,tt,tu,u35,u36,u37,u38,u39,u40,u41,u42,undef,undef],defers:=[] }/\Hid ((D 0=true->ta=C (some ⟨o,0,none⟩) lr rc)/\(D 1=true->tb=B .i64 (lr:Int))/\(D 2=true->tc=C (some ⟨q,0,none⟩) lb cb)/\(D 3=true->td=B .i64 (lb:Int))/\(D 4=true->te=B .i64 (n:Int))/\(D 5=true->tf=C (some ⟨o,0,none⟩) lr rc)/\(D 6=true->tg=C (some ⟨o,0,none⟩) lr rc)/\(D 7=true->ti=B .i64 (lr:Int))/\(D 8=true->tj=B .i64 (m:Int))/\(D 9=true->tk=F (some ⟨o,m*4,none⟩))/\(D 10=true->Js V tl (cf R m))/\(D 11=true->tm=C (some ⟨q,0,none⟩) lb cb)/\(D 12=true->tn=C (some ⟨q,0,none⟩) lb cb)/\(D 13=true->tp=B .i64 (lb:Int))/\(D 14=true->tq=B .i64 (g:Int))/\(D 15=true->tr=F (some ⟨q,g*4,none⟩))/\(D 16=true->Js V ts (cf qs g))/\(D 17=true->Js V tt x)/\(D 18=true->RowK false V tu (Jd (Dn n [x])))/\(D 19=true->RowK false V tv (Jd (Dn n [x]))))/\Hid (LE w wr V (C N W T) (C (some ⟨o,0,none⟩) lr rc) Q R))
     (Ea ⟨_,_,_,_,rfl,Ja ⟨DQ,DQ,DQ,DQ,DQ,DQ,DQ,DQ,DQ,DQ,DQ,DQ,DQ,DQ,DQ,DQ,DQ,DQ,DQ,DQ⟩,Ja Um⟩) ?step1 ?fin1
    case step1=>
     rintro D aw V i ds fr O f fd ⟨ta,tb,tc,td,te,tf,tg,ti,tj,tk,tl,tm,tn,tp,tq,tr,ts,tt,tu,tv,rfl,d,c⟩;have fu:i<20:=(Ac.1 O).1;obtain rfl|rfl|rfl|rfl|rfl|rfl|rfl|rfl|rfl|rfl|rfl|rfl|rfl|rfl|rfl|rfl|rfl|rfl|rfl|rfl:=Mp i om
     all_goals
      simp only[Af,Ae,Ag]at O;subst O
     . have l:=c.o;clear f;refine DW ?_;exact⟨(Dh d),Ja (c.o)⟩
     . have l:=c.o;obtain rfl:=d.o.1 (f 0 DQ);clear f;refine DW ?_;exact⟨(Dp (Dh d)),Ja (c.o)⟩
     . have l:=c.o;clear f;refine DW ?_;exact⟨(Dg d),Ja (c.o)⟩
     . have l:=c.o;obtain rfl:=d.o.2.2.1 (f 2 DQ);clear f;refine DW ?_;exact⟨(Di (Dg d)),Ja (c.o)⟩
     . have l:=c.o;obtain rfl:=d.o.2.1 (f 1 DQ);obtain rfl:=d.o.2.2.2.1 (f 3 DQ);clear f;refine DW ?_;exact⟨(Dx (Di (Dp d))),Ja (c.o)⟩
     . have l:=c.o;clear f;refine DW ?_;exact⟨(D0 d),Ja (c.o)⟩
     . have l:=c.o;clear f;refine DW ?_;exact⟨(Dw d),Ja (c.o)⟩
     . have l:=c.o;obtain rfl:=Dy d (f 6 DQ);clear f;refine DW ?_;exact⟨(EB (Dw d)),Ja (c.o)⟩
     . have l:=c.o;obtain rfl:=D9 d (f 7 DQ);clear f;refine DW ?_;exact⟨(EI (EB d)),Ja (c.o)⟩
     . have l:=c.o;obtain rfl:=Ds d (f 5 DQ);obtain rfl:=EF d (f 8 DQ);clear f;refine DW ?_;exact⟨(Es (EI (D0 d))),Ja (c.o)⟩
     . have l:=c.o;obtain rfl:=EU d (f 9 DQ);obtain⟨⟨e0,e1,e2,e3⟩,hr⟩:=Qg.o V l.2;clear f;refine DW ?_;exact⟨(D6 (Es d) λ_=>hr),Ja (c.o)⟩
     . have l:=c.o;clear f;refine DW ?_;exact⟨(D7 d),Ja (c.o)⟩
     . have l:=c.o;clear f;refine DW ?_;exact⟨(EE d),Ja (c.o)⟩
     . have l:=c.o;obtain rfl:=Ej d (f 12 DQ);clear f;refine DW ?_;exact⟨(EO (EE d)),Ja (c.o)⟩
     . have l:=c.o;obtain rfl:=GK d (f 13 DQ);clear f;refine DW ?_;exact⟨(Ei (EO d)),Ja (c.o)⟩
     . have l:=c.o;obtain rfl:=Ee d (f 11 DQ);obtain rfl:=Gj d (f 14 DQ);clear f;refine DW ?_;exact⟨(Hm (Ei (D7 d))),Ja (c.o)⟩
     . have l:=c.o;obtain rfl:=Kp d (f 15 DQ);obtain⟨⟨e0,e1,e2,e3⟩,hr⟩:=Qe.o V l.1.2.2;clear f;refine DW ?_;exact⟨(Nb (Hm d) λ_=>hr),Ja (c.o)⟩
     . have l:=c.o;have M:=EJ d (f 10 DQ);have h1:=Nh d (f 16 DQ);clear f;have HC:=Ja (Ra _ _ (cf R m) (cf qs g) V M h1 (Qt.o.at m) (Qv.o.at g) Qu.o);rw[Ub.o]at HC;clear M h1;refine Jb rfl rfl λK hK=>?_;go_simp;go_wp2_with(go_at_call 77;refine HC.o.mono ?_;rintro e w5 ⟨v5,rfl,ap,y⟩)
       obtain⟨G0,G1,G2,G3,G4,G5,G6,G7,G8,G9,ay,bf,bh,bg,bc,an,am,_,f6,aj⟩:=d.o;exact Ea ⟨_,_,_,_,rfl,Ja ⟨G0,G1,G2,G3,G4,G5,G6,G7,G8,G9,λh=>(ay h).below y,bf,bh,bg,bc,an,λh=>(am h).below y,λ_=>ap,λh=>(f6 h).below y,λh=>(aj h).below y⟩,Ja (c.o.below y)⟩
     . have l:=c.o;have M:=Ni d (f 17 DQ);obtain rfl:=d.o.2.2.2.2.1 (f 4 DQ);clear f;have HC:=Ja (K4 _ n x V M Qf.o.1);clear M;refine Jb rfl rfl λK hK=>?_;go_simp;go_wp2_with(go_at_call 78;refine HC.o.mono ?_;rintro e w5 ⟨v5,rfl,ap,y⟩)
       obtain⟨G0,G1,G2,G3,_,G5,G6,G7,G8,G9,ay,bf,bh,bg,bc,an,am,f7,_,aj⟩:=d.o;exact Ea ⟨_,_,_,_,rfl,Ja ⟨G0,G1,G2,G3,λ_=>rfl,G5,G6,G7,G8,G9,λh=>(ay h).below y,bf,bh,bg,bc,an,λh=>(am h).below y,λh=>(f7 h).below y,λ_=>ap,λh=>(aj h).below y⟩,Ja (c.o.below y)⟩
     . have l:=c.o;have M:=Nj d (f 18 DQ);clear f;refine DW ?_;exact⟨(Ng d λ_=>M),Ja (c.o)⟩
    case fin1=>
     rintro D aw V cg ⟨ta,tb,tc,td,te,tf,tg,ti,tj,tk,tl,tm,tn,tp,tq,tr,ts,tt,tu,tv,rfl,d,c⟩;have hM:=d.o.2.2.2.2.2.2.2.2.2.2.2.2.2.2.2.2.2.2.2 (cg 19 DS);have HV:=Ja c.o.1;clear d c cg;obtain⟨a9,l9,c9,rfl⟩:=hM.form;have HM:=Ja hM;clear hM;obtain⟨H1,H2,H3⟩:=Dm (IG _ _ Q (Jd (Dn n [x])) V HV.o.1 HM.o Uk.o Qw.o ⟨Qr.o.1,by have:=Qo.o;have:=Qf.o;omega⟩) (λ(U:H) (h:Bl V U)=>OS _ _ (Jd (Dn n [x])) qs U (HM.o.below h) (Un.o.below (Bt HV.o.2.2 h)) Qw.o Qv.o Ui.o (by have:=Qo.o;have:=Qf.o;have:=Qh.o;omega)) (λ(U:H) (h:Bl V U) (v:I) (hv:RowK false U v (JR (Jd (Dn n [x])) qs))=>Is _ v R _ U (HV.o.2.1.below h) hv Qt.o Qy.o ⟨Qr.o.2,Ud.o⟩);go_wp2_with(first
      |(go_at_call 64;refine H1.o.mono ?_;clear H1;rintro e w1 ⟨u1,rfl,az,af⟩;obtain⟨a1,l1,c1,rfl⟩:=az.form;have Uc:=Ja az;clear az)
      |(go_at_call 14;refine(H2.o _ af).mono ?_;clear H2;rintro e w2 ⟨u2,rfl,bj,J⟩;have Qm:=Bt af J;have Qz:=Ja (Uc.o.below J);clear J)
      |(go_at_call 63;refine(H3.o _ Qm _ bj).mono ?_;clear H3;rintro e w3 ⟨u3,rfl,ak,ah⟩;obtain⟨a3,c3,rfl,_⟩:=id ak;have Uj:=Ja ak;have Uo:=Ja (Bt Qm ah);have Ul:=Ja (Qz.o.below ah);clear bj ak ah af Qm))
     go_roundw
     case rel=>exact⟨k+1,_,_,_,⟨_,_,rfl⟩,⟨_,_,_,rfl⟩,by have:=Qx.o;have:=P.o;omega,Ja rfl,Ja ⟨Ul.o,Uj.o,Bt HV.o.2.2 Uo.o⟩,Uf⟩
     case measure=>
      show(J2 R _).length<lr;have:=Qx.o;have:=P.o;omega
  . have Qi:¬(lb:Int)<=(lr:Int):=om
    have Qp:=Ja (Y.o.done Qn.o Ql.o (by have:=P.o;have:=Qh.o;omega));go_wp2_with fail
    exact BA (v:=.tuple #[C N W T,C ra lr rc]) (by simp[results,Tryz.results41,go_sem]) rfl ⟨_,_,rfl,by rw[<-Qp.o.1];exact HX.o.1,by rw[<-Qp.o.2];exact HX.o.2.1,HX.o.2.2⟩
end Go.Proofs.YteldjhhjnchdeaaGreatDoor
namespace Go.Proofs.YteldjhhjnchdeaaGreatDoor
open Go.RowKit Go.Shelf
section
variable {D E l:Int} {K A:Nat} {ps qs:List Rat}
structure Dvn(D E l:Int)(K A:Nat)(ps qs:List Rat):Prop where
 hD:D≠0
 sD:Sm K D
 hp:EH D K ps
 hE:E≠0
 sE:Sm A E
 hq:EH E A qs
 hl:l≠0
 sl:Sm A l
 lead:cf qs (qs.length-1)=Rat.divInt l E
variable{m:Nat}
theorem Dvn.lne(h:Dvn D E l K A ps qs):cf qs (qs.length-1)≠0:=by
 rw[h.lead];intro e;have hE:(E:Rat)≠0:=by exact_mod_cast h.hE
 have a:(l:Rat)/(E:Rat)*(E:Rat)=l:=Ct hE;rw[<-C6,e,CQ]at a;exact h.hl (by exact_mod_cast a.symm)
theorem Dvn.sq(h:Dvn D E l K A ps qs)(i:Nat):Df A (cf qs i):=(h.hq i).smq h.hE h.sE
theorem Dvn.den(h:Dvn D E l K A ps qs)(k:Nat):D*l^k≠0/\Sm (K+k*(A+1)+1) (D*l^k):=by
 refine⟨Co h.hD (Int.pow_ne_zero h.hl),(h.sD.mul (h.sl.powZ k)).mono ?_⟩;rw[Ax];omega
theorem Dvn.at(h:Dvn D E l K A ps qs)(k:Nat):(∀i,Df (K+k*(A+1)+1) (cf (JD ps qs (qs.length-1) m k).2 i))/\∀i,Df (K+k*(A+1)+1) (cf (JD ps qs (qs.length-1) m k).1 i):=by
 have b:=SM (m:=m) h.hD h.hp h.hE h.sE h.hq h.hl h.sl h.lead h.lne k;have a:=h.den k;exact⟨λi=>((b.1 i).mono om).smq a.1 a.2,λi=>((b.2 i).mono om).smq a.1 a.2⟩
theorem Dvn.sizes(h:Dvn D E l K A ps qs)(c:2*(K+m*(A+1)+1)+2*(2*A+1)<=1000000):∀k,k<=m->∃z,z+(2*A+1)<=1000000/\(k<m->2*z+2*(2*A+1)<=1000000)/\(∀i,Df z (cf (JD ps qs (qs.length-1) m k).2 i))/\∀i,Df (z+A) (cf (JD ps qs (qs.length-1) m k).1 i):=by
 intro k a;have b:k*(A+1)<=m*(A+1):=Ak _ a;exact⟨K+k*(A+1)+1,om,λ_=>by omega,(h.at k).1,λi=>((h.at k).2 i).mono om⟩
theorem Dvn.rem(h:Dvn D E l K A ps qs)(b:ps.length-(qs.length-1)=m):EH (D*l^m) (K+m*(A+1)) (J3 ps qs)/\EH (D*l^m) (K+m*(A+1)) (Y8 ps qs):=by
 have a:=SM (m:=m) h.hD h.hp h.hE h.sE h.hq h.hl h.sl h.lead h.lne m;refine⟨λi=>?_,λi=>?_⟩
 . unfold J3;rw[JX,b];exact a.1 i
 . unfold Y8;rw[JX,b];exact a.2 i
theorem Dvn.divS(h:Dvn D E l K A ps qs)(la:Nat)(J:K+la*(A+1)+1+(2*A+1)<=1000000):DivS A la (λk R Q=>EH (D*l^k) (K+k*(A+1)) R/\EH (D*l^k) (K+k*(A+1)) Q) qs:=by
 refine⟨?_,?_⟩
 . rintro k R Q n a ⟨b,d⟩ _ _ _ q y t;have u:D*l^k≠0:=(h.den k).1;have e:D*l^(k+1)=D*l^k*l:=by rw[Int.pow_succ,CP]
   rw[e];have o:D*l^k*l≠0:=Co u h.hl;obtain⟨r,m,f⟩:=b (R.length-1);have g:a=Rat.divInt (r*E) (D*l^k*l):=by
    rw[q];have z:cf R (R.length-1)=Rat.divInt (r*E) (D*l^k*l)*cf qs (qs.length-1):=by
     rw[h.lead,CU,m,show r*E*l=r*(E*l)from CP _ _ _,show D*l^k*l*E=D*l^k*(E*l)by rw[CP (D*l^k),Fk l E],CY (Co h.hE h.hl)]
    rw[z,Rat.mul_div_cancel h.lne]
   have s:CD (D*l^k*l) (K+(k+1)*(A+1)) a:=⟨r*E,g,(f.mul h.sE).mono (by rw[AA];omega)⟩;have p:∀j,CD (D*l^k*l) (K+k*(A+1)+A) (a*cf qs j):=λj=>by
    obtain⟨x,ex,w⟩:=h.hq j;refine⟨r*x,?_,f.mul w⟩;rw[g,ex,CU,show r*E*x=r*x*E by rw[CP,Fk E x,CP],CY h.hE]
   refine⟨λi=>?_,λi=>?_⟩
   . rw[y];split
     . rw[FC];exact(((b i).wide h.sl h.hl).add (SL (p _)) o).mono (by rw[AA];omega)
     . rw[FC,Rat.neg_zero,FM];exact((b i).wide h.sl h.hl).mono (by rw[AA];omega)
   . rw[t];split
     . exact s
     . exact((d i).wide h.sl h.hl).mono (by rw[AA];omega)
 . rintro k R Q v ⟨b,d⟩;have L:k*(A+1)<=la*(A+1):=Ak _ v;have c:=h.den k;exact⟨Db.of λi=>Sq.of (((b i).mono om).smq c.1 c.2) om,Db.of λi=>Sq.of (((d i).mono om).smq c.1 c.2) om,K+k*(A+1)+1,om,λi=>((b i).mono om).smq c.1 c.2⟩
theorem Dvn.start(h:Dvn D E l K A ps qs):EH (D*l^0) (K+0*(A+1)) ps/\EH (D*l^0) (K+0*(A+1)) []:=by
 rw[Int.pow_zero,Int.mul_one];exact⟨λi=>(h.hp i).mono om,λi=>by rw[YQ];exact CD.zero _ _⟩
end
def Eo(A:Nat)(p:List Rat):Prop:=∀i,∃z:Int,Sm A z/\cf p i=(z:Rat)
variable{p:List Rat}{A:Nat}
theorem Eo.cdl(h:Eo A p):EH 1 A p:=λi=>by
 obtain⟨z,a,b⟩:=h i;exact Mh DS a (by rw[b];grind)
theorem Eo.mono{A B:Nat}{p:List Rat}(h:Eo A p)(b:A<=B):Eo B p:=λi=>by
 obtain⟨z,a,c⟩:=h i;exact⟨z,a.mono b,c⟩
theorem Eo.ln{A:Nat}{p:List Rat}(h:Eo A p):Ln A p:=h.cdl.ln DS
theorem Eo.smq{A:Nat}{p:List Rat}(h:Eo A p)(a:1<=A)(i:Nat):Df A (cf p i):=(h.cdl i).smq DS (Sm.one A a)
theorem Sg(hp:Jd p=p)(g:p≠[])(h:Ln A p):∃E:Int,E≠0/\Sm A E/\EH E A (JG p):=by
 obtain⟨c,f,b⟩:=h;have hl:=JF hp g;obtain⟨E,d,a⟩:=b (p.length-1);have hE:E≠0:=λe=>by
  rw[e]at a;exact Hw hl f a
 refine⟨E,hE,d,λi=>?_⟩;obtain⟨z,k,j⟩:=b i;refine Mh hE k ?_;unfold JG;rw[Y2,<-j,<-a];grind
theorem Ln.sqs(hp:Jd p=p)(h:Ln A p)(hA1:1<=A):∀i,Df A (cf (JG p) i):=by
 by_cases a:p=[]
 . subst a;intro i;rw[dX,YQ];exact Df.zero _ hA1
 . obtain⟨E,b,c,d⟩:=Sg hp a h;exact λi=>(d i).smq b c
end Go.Proofs.YteldjhhjnchdeaaGreatDoor
namespace Go.Proofs.YteldjhhjnchdeaaGreatDoor
variable{p q:List Rat}{c:Rat}
theorem eA(c:Rat):Yu c=c\/Yu c=-c:=by
 unfold Yu;split
 . exact Or.inr rfl
 . exact Or.inl rfl
theorem eB(h:c≠0):Yu c≠0:=by
 rcases eA c with e|e
 . rw[e];exact h
 . rw[e];intro a;exact h (by rw[<-Rat.neg_neg c,a];rfl)
theorem eC(h:c≠0):∀n:Nat,c^n≠0:=by
 intro n;induction n with
 |zero=>rw[Rat.pow_zero];decide
 |succ n a=>rw[Rat.pow_succ];exact Hw a h
def Gq(p q:List Rat):Rat:=Yu (cf q (q.length-1))^(p.length+1-q.length)
def Xb(p q:List Rat):List Rat:=Dq (Gq p q) p
def Ep(p q:List Rat):List Rat:=J2 [] (YS (J3 (Xb p q) q))
theorem eD:YS []=[]:=rfl
theorem KV(p:List Rat):Jd (YS p)=YS p:=Yc _ _
theorem Mj(hp:Jd p=p):∃c:Rat,0<c/\YS p=Dq c p:=by
 by_cases a:p=[]
 . subst a;exact⟨1,DS,rfl⟩
 . exact⟨_,dn hp a,rfl⟩
theorem LF(hp:Jd p=p){K:Nat}(h:Ln K p):Eo K (YS p):=by
 by_cases a:p=[]
 . subst a;exact λi=>⟨0,Sm.zero K,by rw[eD,YQ];rfl⟩
 . exact Sf hp a h
theorem Oi(hq:Jd q=q)(a:q≠[]):Gq p q≠0:=eC (eB (JF hq a)) _
theorem Mk(p q:List Rat):Jd (Ep p q)=Ep p q:=Iz _ _
theorem Oj(hq:Jd q=q)(g:q≠[]):∃c:Rat,c≠0/\Ep p q=Dq c (J3 p q)/\Ep p q=Dq (-1) (YS (J3 (Xb p q) q)):=by
 have f:Ep p q=Dq (-1) (YS (J3 (Xb p q) q)):=IX (Mk _ _) (Yc _ _) λx=>by
  unfold Ep;rw[Mz,XF];simp[ev];grind
 have a:=(Md (c:=Gq p q) (d:=1) DS p q hq g).2;rw[LB hq]at a;obtain⟨c,b,j⟩:=Mj (YP (Xb p q) q);have i:c≠0:=λe=>by rw[e]at b;exact absurd b DS
 refine⟨Gq p q*c*-1,Hw (Hw (Oi hq g) i) DS,?_,f⟩;rw[f,j];unfold Xb;rw[a,Od,Od,Rat.mul_assoc]
theorem Sh(hq:Jd q=q)(a:q≠[]){A:Nat}(h:Ln A (J3 p q)):Eo A (YS (J3 (Xb p q) q))/\Eo A (Ep p q):=by
 have b:=(Md (c:=Gq p q) (d:=1) DS p q hq a).2;rw[LB hq]at b;have f:Eo A (YS (J3 (Xb p q) q)):=LF (YP _ _) (by unfold Xb;rw[b];exact h.sc (Oi hq a));refine⟨f,λi=>?_⟩;obtain⟨z,j,g⟩:=f i;obtain⟨_,_,_,e⟩:=Oj (p:=p) hq a;exact⟨-z,j.neg,by rw[e,Y2,g,Rat.intCast_neg];grind⟩
structure Chn(p q:List Rat)(A:Nat)(a b:List Rat):Prop where
 ta:Jd a=a
 tb:Jd b=b
 wa:Eo A a
 wb:Eo A b
 gc:JT a b=JT p q
 la:a.length<=max p.length q.length
 lb:b.length<=q.length
 nx:b≠[]->Ln A (J3 a b)
 eu:Eu (YS p) (YS q) a b
def Dk(K:Nat)(p q:List Rat):Nat:=(K+1)*(p.length+q.length+1)
theorem He(K:Nat)(p q:List Rat):K+1<=Dk K p q:=by
 unfold Dk;have:(K+1)*1<=(K+1)*(p.length+q.length+1):=Av _ om;omega
theorem Si(K:Nat)(p q:List Rat):(K+1)*(p.length+q.length)<=Dk K p q:=Av _ om
theorem XO(hp:Jd p=p):(YS p).length=p.length:=by
 obtain⟨c,a,e⟩:=Mj hp;rw[e];exact Yl (λb=>by rw[b]at a;exact absurd a DS) hp
theorem Sj(hp:Jd p=p)(hq:Jd q=q):JT (YS p) (YS q)=JT p q:=by
 obtain⟨c,f,e⟩:=Mj hp;obtain⟨d,b,g⟩:=Mj hq;rw[e,g];exact Mf (λa=>by rw[a]at f;exact absurd f DS) (λa=>by rw[a]at b;exact absurd b DS) hp hq
section
variable {K:Nat} {p q a b:List Rat}
theorem Chn.ln_rem(hp:Jd p=p)(hq:Jd q=q)(d:Ln K p)(e:Ln K q)(hl:p.length+q.length<=1000000)(h:Eu (YS p) (YS q) a b)(f:b≠[]):Ln (Dk K p q) (J3 a b):=by
 have c:=SW (KV p) (KV q) (LF hp d).ln (LF hq e).ln (by rw[XO hp,XO hq];exact hl) h f;rw[XO hp,XO hq]at c;exact c.mono (Si _ _ _)
theorem Chn.start(hp:Jd p=p)(hq:Jd q=q)(a:Ln K p)(b:Ln K q)(hl:p.length+q.length<=1000000):Chn p q (Dk K p q) (YS p) (YS q) where
 ta:=KV p
 tb:=KV q
 wa:=(LF hp a).mono (by have:=He K p q;omega)
 wb:=(LF hq b).mono (by have:=He K p q;omega)
 gc:=Sj hp hq
 la:=by rw[XO hp];exact Nat.le_max_left _ _
 lb:=by rw[XO hq];exact Aa _
 nx:=Chn.ln_rem hp hq a b hl (.base _ _)
 eu:=.base _ _
theorem Chn.next(hp:Jd p=p)(hq:Jd q=q)(i:Ln K p)(j:Ln K q)(hl:p.length+q.length<=1000000)(h:Chn p q (Dk K p q) a b)(d:b≠[]):Chn p q (Dk K p q) b (Ep a b):=by
 obtain⟨c,g,e,_⟩:=Oj (p:=a) h.tb d;have f:Eu (YS p) (YS q) b (Ep a b):=by rw[e];exact h.eu.tail d g
 have k:(Ep a b).length<b.length:=by
  rw[e,Yl g (YP _ _)];exact(YN a b h.tb d).2.1
 have l:=h.lb;exact⟨h.tb,Mk _ _,h.wb,(Sh h.tb d (h.nx d)).2,by rw[<-f.gcd (KV p) (KV q)];exact Sj hp hq,om,om,Chn.ln_rem hp hq i j hl f,f⟩
end
variable{p:List Rat}{A:Nat}
theorem Ml{a b:List Rat}(f:Jd b=b)(d:b≠[]):(Ep a b).length<b.length:=by
 obtain⟨c,g,e,_⟩:=Oj (p:=a) f d;rw[e,Yl g (YP _ _)];exact(YN a b f d).2.1
structure Rhn(p q:List Rat)(A:Nat)(a b:List Rat):Prop where
 ta:Jd a=a
 tb:Jd b=b
 ca:∃D:Int,D≠0/\Sm A D/\EH D A a
 cb:∃E:Int,E≠0/\Sm A E/\EH E A b
 mb:b≠[]->cf b (b.length-1)=1
 ma:JG a=a
 gc:JT a b=JT p q
 la:a.length<=max p.length q.length
 lb:b.length<=q.length
 nx:b≠[]->Ln A (J3 a b)
 eu:Eu (JG p) (JG q) a b
theorem Sk(a:1<=A):∃D:Int,D≠0/\Sm A D/\EH D A []:=⟨1,DS,Sm.one A a,λi=>by rw[YQ];exact CD.zero _ _⟩
theorem LG(hp:Jd p=p)(h:Ln A p)(b:1<=A):∃E:Int,E≠0/\Sm A E/\EH E A (JG p):=by
 by_cases a:p=[]
 . subst a;exact Sk b
 . exact Sg hp a h
theorem Sl{K:Nat}(hp:Jd p=p)(h:Ln K p):Ln K (JG p):=by
 by_cases a:p=[]
 . subst a;exact h
 . exact h.sc (Iv (JF hp a))
theorem Sn(hp:Jd p=p)(h:JG p≠[]):cf (JG p) ((JG p).length-1)=1:=SX hp (λe=>h (by rw[e];rfl))
section
variable {K:Nat} {p q a b:List Rat}
theorem Rhn.ln_rem(hp:Jd p=p)(hq:Jd q=q)(d:Ln K p)(e:Ln K q)(hl:p.length+q.length<=1000000)(h:Eu (JG p) (JG q) a b)(f:b≠[]):Ln (Dk K p q) (J3 a b):=by
 have c:=SW (Y7 p) (Y7 q) (Sl hp d) (Sl hq e) (by rw[Yh hp,Yh hq];exact hl) h f;rw[Yh hp,Yh hq]at c;exact c.mono (Si _ _ _)
theorem Rhn.start(hp:Jd p=p)(hq:Jd q=q)(a:Ln K p)(b:Ln K q)(hl:p.length+q.length<=1000000):Rhn p q (Dk K p q) (JG p) (JG q) where
 ta:=Y7 p
 tb:=Y7 q
 ca:=LG hp (a.mono (by have:=He K p q;omega)) (by have:=He K p q;omega)
 cb:=LG hq (b.mono (by have:=He K p q;omega)) (by have:=He K p q;omega)
 mb:=Sn hq
 ma:=Me hp
 gc:=SY p q hp hq
 la:=by rw[Yh hp];exact Nat.le_max_left _ _
 lb:=by rw[Yh hq];exact Aa _
 nx:=Rhn.ln_rem hp hq a b hl (.base _ _)
 eu:=.base _ _
theorem Rhn.next(hp:Jd p=p)(hq:Jd q=q)(i:Ln K p)(j:Ln K q)(hl:p.length+q.length<=1000000)(h:Rhn p q (Dk K p q) a b)(d:b≠[]):Rhn p q (Dk K p q) b (JG (J3 a b)):=by
 have e:=YP a b;have f:Eu (JG p) (JG q) b (JG (J3 a b)):=by
  by_cases g:J3 a b=[]
  . have:=h.eu.tail (c:=1) d DS;rw[g]at this ⊢;exact this
  . exact h.eu.tail d (Iv (JF e g))
 have k:(JG (J3 a b)).length<b.length:=by
  rw[Yh e];exact(YN a b h.tb d).2.1
 have l:=h.lb;refine⟨h.tb,Y7 _,h.cb,LG e (h.nx d) (by have:=He K p q;omega),Sn e,?_,by rw[<-f.gcd (Y7 p) (Y7 q)];exact SY p q hp hq,om,om,Rhn.ln_rem hp hq i j hl f,f⟩;unfold JG;rw[h.mb d,show(1:Rat)/1=1 by grind];exact LB h.tb
end
end Go.Proofs.YteldjhhjnchdeaaGreatDoor
namespace Go.Proofs.YteldjhhjnchdeaaGreatDoor
open Go.RowKit Go.Shelf
theorem So(q:Rat):Hq q 0<0↔q<0:=by
 rw[Rat.lt_iff];unfold Hq Ef;split<;>(try split)<;>omega
theorem eE(a b:Nat):(a:Int)*((b:Int)/((Int.gcd a b:Nat):Int))=((Nat.lcm a b:Nat):Int):=by
 show(a:Int)*((b:Int)/((Nat.gcd a b:Nat):Int))=_;rw[<-Fo,<-Fa];congr 1;rw[Nat.lcm,Nat.mul_div_assoc _ (Ff a b)]
theorem KW(ps:List Rat)(i:Nat):(if((i:Nat):Int)<0 then(0:Rat)else cf ps ((i:Nat):Int).toNat)=cf ps i:=by
 rw[BC om,Cy]
theorem eF(A:Nat)(c b:I)(ps qs:List Rat)(w:H)(f:Jg w c ps)(m:Jg w b qs)(hs:Db ps)(hq:∀i,Df A (cf qs i))(g:Jd ps=ps)(j:Jd qs=qs)(a:qs≠[])
(l:∀k,k<=ps.length-(qs.length-1)->∃z,z+(2*A+1)<=1000000/\(k<ps.length-(qs.length-1)->2*z+2*(2*A+1)<=1000000)/\(∀i,Df z (cf (JD ps qs (qs.length-1) (ps.length-(qs.length-1)) k).2 i))/\∀i,Df (z+A) (cf (JD ps qs (qs.length-1) (ps.length-(qs.length-1)) k).1 i)):
 Calls Tryz.prog 22 #[c,b] w λe d=>∃u v,e=.returned (.tuple #[u,v,E true])/\Jg d u (Y8 ps qs)/\Jg d v (J3 ps qs)/\Bl w d:=by
 have h:=M3.SI A c b ps qs w f m hs hq g j (λ_=>l);rw[BK a,BC a,BC a]at h;exact h
end Go.Proofs.YteldjhhjnchdeaaGreatDoor
namespace Go.Proofs.YteldjhhjnchdeaaGreatDoor.M3
open Go.RowKit Go.Shelf
variable{S:List Rat}{c i l n:Nat}{a:Option Addr}{v:I}{V:H}
theorem Sp(n:Nat)(h:n<=2199023255552)(w:H):(Instr.makeSlice 22 (B .i64 (n:Int)) (B .i64 (n:Int))).run Tryz.prog w=.ok (C (some ⟨w.heap.size,0,none⟩) n n) (w.alloc (G (Ye n) 65)):=by
 obtain⟨i,c,b⟩:=FD.1 Tryz.infoRat;simp only[Prod.mk.injEq]at b;obtain⟨d,hs,e⟩:=b;have a:=run_make (P:=Tryz.prog) w 22 65 i _ Tryz.underlying22 c d .i64 .i64 n n om (Int.le_refl _) (by rw[e];omega) om;simp only[Cy,hs]at a;exact a
theorem Hf(V:H):Has V (.agg #[C Option.none 0 0]) (.poly []):=⟨_,rfl,row_zero V Option.none⟩
theorem Sr(V:H):Jg V (.agg #[C Option.none 0 0]) []:=⟨_,rfl,row_zero V Option.none⟩
theorem Mem.poly2{w:H}{bs:List (Option (Nat × Dat))}(M:Mem w V bs){B:Nat}{ps:List Rat}(h:bs[i]?=some (some (B,.poly ps))):∃a l c,Boxed V B 25 (C a l c)/\Jg V (.agg #[C a l c]) ps:=by
 obtain⟨a,l,c,b,d⟩:=M.poly h;exact⟨a,l,c,b,_,rfl,d⟩
theorem LH{W:H}{B:Nat}(b:Boxed W B 25 (C a l c)){x:I}{qs:List Rat}(h:Jg W v qs):Jg (W.setCell ⟨B,0,Option.none⟩ x) v qs:=by
 obtain⟨u,e,h⟩:=h;exact⟨u,e,FY b x h⟩
theorem Has.set1{d:Dat}(h:Has V v d){B:Nat}(q:Boxed V B 25 (C a l c))(n0:Jz (C a l c)=true)(b:I):Has (V.setCell ⟨B,0,Option.none⟩ b) v d:=
 h.keep (QU q n0 b) (Or.inr λ_ _ g=>FY q b g)
theorem Tup2.set1{V:H}{v:I}{d1 d:Dat}(h:Tup2 V v d1 d){B:Nat}{a:Option Addr}{l c:Nat}(q:Boxed V B 25 (C a l c))(n0:Jz (C a l c)=true)(b:I):Tup2 (V.setCell ⟨B,0,Option.none⟩ b) v d1 d:=by
 obtain⟨u1,u2,e,f,g⟩:=h;exact⟨u1,u2,e,f.set1 q n0 b,g.set1 q n0 b⟩
attribute [local go_sem] Oper.semAt_some
theorem eG(W:I)(q:Rat)(w:H)(D:Jj w W q)(S:Sq q):
 Calls Tryz.prog 129 #[W] w λe Z=>∃u,e=.returned u/\Jj Z u (Yu q)/\Bl w Z:=by
 obtain⟨Q,ae,ad,R,X,Y,T,ah,rfl⟩:=Jj.form D;have s:=(((Mem.nil w).push (.rat (q)) D).push (.rat 0) (Ek _));simp only[A1]at s;have s:Mem w ((w.alloc (G #[E Q,C ae ad R,E X,C Y T ah] 65)).alloc (G #[E false,C none 0 0,E false,C none 0 0] 65)) [some (w.heap.size,.rat (q)),some (w.heap.size+1,.rat (0))]:=s;obtain⟨W0,M⟩:=ex ((w.alloc (G #[E Q,C ae ad R,E X,C Y T ah] 65)).alloc (G #[E false,C none 0 0,E false,C none 0 0] 65));have U:=Ja M;rw[M]at s;have g:Hid (Mem w W0 [some (w.heap.size,.rat (q)),some (w.heap.size+1,.rat (0))]):=Ja s;have Qn:=Ja S;clear s M D S;go_enter Tryz.func129,Tryz.ntmps129
 go_upto_region 1 with fail
 rw[U.o];clear U;obtain⟨s1,a1,l1,c1,t1,b1,k1,d1,z,A,i1,j1⟩:=g.o.rat (i:=0) rfl;obtain⟨r,p,k,o⟩:=z.cq;obtain⟨s2,a2,l2,c2,t2,b2,k2,d2,a,r2,i2,j2⟩:=g.o.rat (i:=1) rfl;obtain⟨c,b,d,f⟩:=a.cq;obtain⟨m,j,l,t⟩:=a.fq;obtain⟨x,P,HR⟩:=Dm (RA _ _ q 0 W0 A (Ek _) Qn.o Ip) (λ(V:H) (h:Bl W0 V)=>Ky _ _ 0 q V (Ek _) (A.below h) Ip Qn.o) A;obtain⟨n,L⟩:=ex (Hq q 0);rw[L]at x;have HN:=Ja L;clear L A i1 j1;by_cases af:n<0
 . have J:=Ja (show 0-q=Yu q by
    have K:=(So q).1 (by rw[HN.o];exact af);unfold Yu;rw[BG K];grind)
   rw[J.o]at P;go_wp2_with(first
    |(go_at_call 68;refine x.o.mono ?_;clear x;rintro e w1 ⟨rfl,hq⟩;clear r p k o;obtain⟨r,p,k,o⟩:=(z.below hq).cq;clear c b d f;obtain⟨c,b,d,f⟩:=(a.below hq).cq;clear m j l t;obtain⟨m,j,l,t⟩:=(a.below hq).fq)
    |(go_at_call 51;refine(P.o _ hq).mono ?_;clear P;rintro e w2 ⟨u2,rfl,y,aq⟩;obtain⟨am,aj,ai,aw,ak,ay,ap,an,rfl⟩:=Jj.form y;have hq:=Bt hq aq;clear r p k o;obtain⟨r,p,k,o⟩:=(z.below hq).cq;clear c b d f;obtain⟨c,b,d,f⟩:=(a.below hq).cq;clear m j l t;obtain⟨m,j,l,t⟩:=(a.below hq).fq))
   have O:=Bt g.o.2.2 hq;have N:=g.o.ge 1 rfl;exact BA (v:=.agg #[E am,C aj ai aw,E ak,C ay ap an]) (by simp[results,Tryz.results129,go_sem,c,b,d,f]) rfl ⟨_,rfl,y.put4 (a.below hq) rfl rfl rfl rfl _ _ _ _,Jt O N _ _ _ _⟩
 . have J:=Ja (show Yu q=q by
    have K:¬q<0:=λh=>af (by rw[<-HN.o];exact(So q).2 h);unfold Yu;rw[BC K])
   go_wp2_with(go_at_call 68;refine x.o.mono ?_;clear x;rintro e w1 ⟨rfl,hq⟩;clear r p k o;obtain⟨r,p,k,o⟩:=(z.below hq).cq;clear c b d f;obtain⟨c,b,d,f⟩:=(a.below hq).cq;clear m j l t;obtain⟨m,j,l,t⟩:=(a.below hq).fq)
   have y:=HR.o.below hq;rw[<-J.o]at y;have O:=Bt g.o.2.2 hq;have N:=g.o.ge 1 rfl;exact BA (v:=.agg #[E s1,C a1 l1 c1,E t1,C b1 k1 d1]) (by simp[results,Tryz.results129,go_sem,c,b,d,f]) rfl ⟨_,rfl,y.put4 (a.below hq) rfl rfl rfl rfl _ _ _ _,Jt O N _ _ _ _⟩
theorem eH(va vb:I)(x y:Nat)(w:H)(ha:Jl w va (x:Int))(hb:Jl w vb (y:Int))(hx:0<x)(az:Da (x:Int))(bg:Da (y:Int)):
 Calls Tryz.prog 97 #[va,vb] w λe w'=>∃u,e=.returned u/\Jl w' u ((Nat.lcm x y:Nat):Int)/\Bl w w':=by
 have Qj:Tryz.prog.follows .mixedOrders=true:=by kernel_rfl
 have HG:=Ja (show((Int.gcd x y:Nat):Int)≠0 by have:=Nat.gcd_pos_of_pos_left y hx;exact Int.natCast_ne_zero.2 (by show Nat.gcd x y≠0;omega));obtain⟨ad,ak,ai,ae,rfl⟩:=Jl.form2 ha;obtain⟨aq,af,ah,ap,rfl⟩:=Jl.form2 hb;have Q:=((((Mem.nil w).push (.int ((x:Int))) ha).push (.int ((y:Int))) (Has.alloc (d:=.int ((y:Int))) hb _)).push (.int 0) (EP _));simp only[A1]at Q;have Q:Mem w (((w.alloc (G #[E ad,C ak ai ae] 63)).alloc (G #[E aq,C af ah ap] 63)).alloc (G #[E false,C none 0 0] 63)) [some (w.heap.size,.int ((x:Int))),some (w.heap.size+1,.int ((y:Int))),some (w.heap.size+1+1,.int (0))]:=Q;obtain⟨W0,aj⟩:=ex (((w.alloc (G #[E ad,C ak ai ae] 63)).alloc (G #[E aq,C af ah ap] 63)).alloc (G #[E false,C none 0 0] 63));have Qh:=Ja aj;rw[aj]at Q;have M1:Hid (Mem w W0 [some (w.heap.size,.int ((x:Int))),some (w.heap.size+1,.int ((y:Int))),some (w.heap.size+1+1,.int (0))]):=Ja Q;have Qc:=Ja az;have Qa:=Ja bg;clear Q aj ha hb az bg;go_enter Tryz.func97,Tryz.ntmps97
 go_upto_region 1 with fail
 rw[Qh.o];clear Qh;clear hx;refine Jk Qj [[],[],[],[1,2],[0,3,3],[4],[5],[5],[5],[],[],[9,6,4,0,1,2,3,4,5,6,9,10],[10,7,11,0,1,2,3,4,5,6,7,9,10,11],[8,12,0,1,2,3,4,5,6,7,8,9,10,11,12]] (by kernel_rfl) DS
  (λD aw V=>∃(tm ta tb Y td Z te tf tg U W tk:I) (N P:Option (Nat × Dat)),aw={ tmps:=#[.agg #[E ad,C ak ai ae],.agg #[E aq,C af ah ap],F (some ⟨w.heap.size,0,none⟩),F (some ⟨w.heap.size+1,0,none⟩),F (some ⟨w.heap.size+1+1,0,none⟩),U,W,tk,Z,tm,ta,tb,Y,td,te,tf,tg,undef,undef,undef],defers:=[] }/\Hid ((D 0=true->Has V tm (.int ((y:Int))))/\(D 1=true->Has V ta (.int ((x:Int))))/\(D 2=true->Has V tb (.int ((y:Int))))/\(D 3=true->Has V Y (.int (((Int.gcd x y:Nat):Int))))/\(D 4=true->Tup2 V td (.int ((y:Int)/((Int.gcd x y:Nat):Int))) (.int ((y:Int)%((Int.gcd x y:Nat):Int))))/\(D 5=true->Tup2 V Z (.int ((y:Int)/((Int.gcd x y:Nat):Int))) (.int ((y:Int)%((Int.gcd x y:Nat):Int))))/\(D 6=true->Has V te (.int ((y:Int)/((Int.gcd x y:Nat):Int))))/\(D 7=true->Has V tf (.int ((y:Int)%((Int.gcd x y:Nat):Int))))/\(D 8=true->tg=E true)/\((D 9=false->N=none)/\(D 9=true->D 11=false->∃B:Nat,U=F (some ⟨B,0,none⟩)/\N=some (B,.int 0))/\(D 11=true->∃B:Nat,U=F (some ⟨B,0,none⟩)/\N=some (B,.int ((y:Int)/((Int.gcd x y:Nat):Int)))))/\((D 10=false->P=none)/\(D 10=true->D 12=false->∃B:Nat,W=F (some ⟨B,0,none⟩)/\P=some (B,.int 0))/\(D 12=true->∃B:Nat,W=F (some ⟨B,0,none⟩)/\P=some (B,.int ((y:Int)%((Int.gcd x y:Nat):Int)))))/\(D 13=true->tk=E true))/\Hid (Mem w V [some (w.heap.size,.int ((x:Int))),some (w.heap.size+1,.int ((y:Int))),some (w.heap.size+1+1,.int (0)),N,P]))
  ⟨_,_,_,_,_,_,_,_,_,_,_,_,none,none,rfl,Ja ⟨DQ,DQ,DQ,DQ,DQ,DQ,DQ,DQ,DQ,DQ,DQ,DQ⟩,Ja (((M1.o).none).none).drew⟩ ?step1 ?fin1
 case step1=>
  rintro D aw V i ds bf hi f O ⟨tm,ta,tb,Y,td,Z,te,tf,tg,U,W,tk,N,P,rfl,b,g⟩;have ce:i<14:=(Ac.1 hi).1;obtain rfl|rfl|rfl|rfl|rfl|rfl|rfl|rfl|rfl|rfl|rfl|rfl|rfl|rfl:=F2 i om
  all_goals
   simp only[Af,Ae,Ag]at hi;subst hi
  . clear f;obtain⟨s,a,l,c,n,i⟩:=g.o.int (i:=1) rfl;obtain⟨e0,e1⟩:=n.cp;refine Za ?_;exact⟨_,_,_,_,_,_,_,_,_,_,_,_,_,_,rfl,(Dh b λ_=>i),Ja (g.o)⟩
  . clear f;obtain⟨s,a,l,c,n,i⟩:=g.o.int (i:=0) rfl;obtain⟨e0,e1⟩:=n.cp;refine Za ?_;exact⟨_,_,_,_,_,_,_,_,_,_,_,_,_,_,rfl,(Dp b λ_=>i),Ja (g.o)⟩
  . clear f;obtain⟨s,a,l,c,n,i⟩:=g.o.int (i:=1) rfl;obtain⟨e0,e1⟩:=n.cp;refine Za ?_;exact⟨_,_,_,_,_,_,_,_,_,_,_,_,_,_,rfl,(Dg b λ_=>i),Ja (g.o)⟩
  . have M:=(b.o.2.1 (f 1 DQ));have A:=(b.o.2.2.1 (f 2 DQ));have HC:=Ja (Io _ _ (x:Int) (y:Int) V M A (by have:=Qc.o.words;omega) (by have:=Qa.o.words;omega));clear f M A;refine Jb rfl rfl λK hK=>?_;go_simp;go_wp2_with(go_at_call 90;refine HC.o.mono ?_;rintro e w5 ⟨v5,rfl,am,j⟩)
    obtain⟨m,q,r,_,J,k,o,t,z⟩:=b.o;exact⟨_,_,_,_,_,_,_,_,_,_,_,_,_,_,rfl,Ja ⟨λh=>(m h).below j,λh=>(q h).below j,λh=>(r h).below j,λ_=>am,λh=>(J h).below j,λh=>(k h).below j,λh=>(o h).below j,λh=>(t h).below j,z⟩,Ja (g.o.below j)⟩
  . have M:=(b.o.1 (f 0 DQ));have A:=(b.o.2.2.2.1 (f 3 DQ));have HC:=Ja (Q5 _ _ (y:Int) ((Int.gcd x y:Nat):Int) V M A HG.o (by have:=Qa.o.words;omega) (by have:=(Qc.o.gcd Qa.o).words;omega));clear f M A;refine Jb rfl rfl λK hK=>?_;go_simp;go_wp2_with(go_at_call 123;refine HC.o.mono ?_;rintro e w5 ⟨v5,v6,rfl,am,bk,j⟩)
    obtain⟨m,q,r,L,_,k,o,t,z⟩:=b.o;exact⟨_,_,_,_,_,_,_,_,_,_,_,_,_,_,rfl,Ja ⟨λh=>(m h).below j,λh=>(q h).below j,λh=>(r h).below j,λh=>(L h).below j,λ_=>⟨v5,v6,rfl,am,bk⟩,λh=>(k h).below j,λh=>(o h).below j,λh=>(t h).below j,z⟩,Ja (g.o.below j)⟩
  . have M:=(b.o.2.2.2.2.1 (f 4 DQ));clear f;refine Za ?_;exact⟨_,_,_,_,_,_,_,_,_,_,_,_,_,_,rfl,(D0 b λ_=>M),Ja (g.o)⟩
  . obtain⟨y1,y2,rfl,A,h2⟩:=((Ds b) (f 5 DQ));clear f;refine Za ?_;exact⟨_,_,_,_,_,_,_,_,_,_,_,_,_,_,rfl,(Dw b λ_=>A),Ja (g.o)⟩
  . obtain⟨y1,y2,rfl,A,h2⟩:=((Ds b) (f 5 DQ));clear f;refine Za ?_;exact⟨_,_,_,_,_,_,_,_,_,_,_,_,_,_,rfl,(EB b λ_=>h2),Ja (g.o)⟩
  . obtain⟨y1,y2,rfl,A,h2⟩:=((Ds b) (f 5 DQ));clear f;refine Za ?_;exact⟨_,_,_,_,_,_,_,_,_,_,_,_,_,_,rfl,(EI b),Ja (g.o)⟩
  . have hf:D 11=false:=DU bf O;obtain rfl:=b.o.2.2.2.2.2.2.2.2.2.1.1 O;clear f;refine Za ?_;obtain⟨m,q,r,L,J,k,o,t,z,_,ay⟩:=b.o;exact⟨_,_,_,_,_,_,_,_,_,_,_,_,_,_,rfl,Ja ⟨λh=>(m h).alloc _,λh=>(q h).alloc _,λh=>(r h).alloc _,λh=>(L h).alloc _,λh=>(J h).alloc _,λh=>(k h).alloc _,λh=>(o h).alloc _,λh=>(t h).alloc _,z,⟨λh=>by simp at h,λ_ _=>⟨_,rfl,rfl⟩,λh=>by simp[hf]at h⟩,ay⟩,Ja (g.o.fill (i:=3) rfl (.int 0) (EP _))⟩
  . have hf:D 12=false:=DU bf O;obtain rfl:=b.o.2.2.2.2.2.2.2.2.2.2.1.1 O;clear f;refine Za ?_;obtain⟨m,q,r,L,J,k,o,t,z,G9,_,an⟩:=b.o;exact⟨_,_,_,_,_,_,_,_,_,_,_,_,_,_,rfl,Ja ⟨λh=>(m h).alloc _,λh=>(q h).alloc _,λh=>(r h).alloc _,λh=>(L h).alloc _,λh=>(J h).alloc _,λh=>(k h).alloc _,λh=>(o h).alloc _,λh=>(t h).alloc _,z,G9,⟨λh=>by simp at h,λ_ _=>⟨_,rfl,rfl⟩,λh=>by simp[hf]at h⟩,an⟩,Ja (g.o.fill (i:=4) rfl (.int 0) (EP _))⟩
  . obtain⟨B,rfl,rfl⟩:=b.o.2.2.2.2.2.2.2.2.2.1.2.1 (f 9 DQ) O;have Qb:=f 9 DQ;have X:=((Dy b) (f 6 DQ));obtain⟨s1,a1,l1,c1,rfl⟩:=Jl.form2 (show Jl V _ _ from X);obtain⟨s,a,l,c,n,i⟩:=g.o.int (i:=3) rfl;have e0:=n.c0;have f0:=n.f0;have e1:=n.c1;have f1:=n.f1;clear f;refine Za ?_;obtain⟨m,q,r,L,J,k,o,t,z,_,ay⟩:=b.o;exact⟨_,_,_,_,_,_,_,_,_,_,_,_,_,_,rfl,Ja ⟨λh=>(m h).set2 n rfl rfl _ _,λh=>(q h).set2 n rfl rfl _ _,λh=>(r h).set2 n rfl rfl _ _,λh=>(L h).set2 n rfl rfl _ _,λh=>(J h).set2 n rfl rfl _ _,λh=>(k h).set2 n rfl rfl _ _,λh=>(o h).set2 n rfl rfl _ _,λh=>(t h).set2 n rfl rfl _ _,z,⟨λh=>by simp[Qb]at h,λ_ h=>by simp at h,λ_=>⟨B,rfl,rfl⟩⟩,ay⟩,Ja (g.o.putInt (i:=3) rfl X)⟩
  . obtain⟨B,rfl,rfl⟩:=b.o.2.2.2.2.2.2.2.2.2.2.1.2.1 (f 10 DQ) O;have Qb:=f 10 DQ;have X:=((D9 b) (f 7 DQ));obtain⟨s1,a1,l1,c1,rfl⟩:=Jl.form2 (show Jl V _ _ from X);obtain⟨s,a,l,c,n,i⟩:=g.o.int (i:=4) rfl;have e0:=n.c0;have f0:=n.f0;have e1:=n.c1;have f1:=n.f1;clear f;refine Za ?_;obtain⟨m,q,r,L,J,k,o,t,z,G9,_,an⟩:=b.o;exact⟨_,_,_,_,_,_,_,_,_,_,_,_,_,_,rfl,Ja ⟨λh=>(m h).set2 n rfl rfl _ _,λh=>(q h).set2 n rfl rfl _ _,λh=>(r h).set2 n rfl rfl _ _,λh=>(L h).set2 n rfl rfl _ _,λh=>(J h).set2 n rfl rfl _ _,λh=>(k h).set2 n rfl rfl _ _,λh=>(o h).set2 n rfl rfl _ _,λh=>(t h).set2 n rfl rfl _ _,z,G9,⟨λh=>by simp[Qb]at h,λ_ h=>by simp at h,λ_=>⟨B,rfl,rfl⟩⟩,an⟩,Ja (g.o.putInt (i:=4) rfl X)⟩
  . obtain rfl:=((EF b) (f 8 DQ));clear f;refine Za ?_;exact⟨_,_,_,_,_,_,_,_,_,_,_,_,_,_,rfl,(Ib (EI b)),Ja (g.o)⟩
 rintro D aw V2 T ⟨tm,ta,tb,Y,td,Z,te,tf,tg,U,W,tk,N,P,rfl,b,g⟩;obtain⟨B3,rfl,rfl⟩:=b.o.2.2.2.2.2.2.2.2.2.1.2.2 (T 11 DS);obtain⟨B4,rfl,rfl⟩:=b.o.2.2.2.2.2.2.2.2.2.2.1.2.2 (T 12 DS);obtain rfl:=EF b (T 8 DS);obtain rfl:=b.o.2.2.2.2.2.2.2.2.2.2.2 (T 13 DS);clear b T M1;have S:Hid (Mem w V2 [some (w.heap.size,.int ((x:Int))),some (w.heap.size+1,.int ((y:Int))),some (w.heap.size+1+1,.int (0)),some (B3,.int ((y:Int)/((Int.gcd x y:Nat):Int))),some (B4,.int ((y:Int)%((Int.gcd x y:Nat):Int)))]):=g;clear g;obtain⟨s5,a5,l5,c5,n5,i5⟩:=S.o.int (i:=0) rfl;obtain⟨bn,cg⟩:=n5.cp;obtain⟨s6,a6,l6,c6,n6,i6⟩:=S.o.int (i:=3) rfl;obtain⟨bu,bt⟩:=n6.cp;obtain⟨s7,a7,l7,c7,R,i7⟩:=S.o.int (i:=2) rfl;obtain⟨Qd,Qe⟩:=R.cp;obtain⟨Qf,Qg⟩:=R.fp;have H1:=Ja (Xi _ _ (x:Int) ((y:Int)/((Int.gcd x y:Nat):Int)) V2 i5 i6 (by have A:=Qc.o.words;have h2:=(Qa.o.div (y:=((Int.gcd x y:Nat):Int))).words;omega));rw[eE]at H1;go_wp2_with(go_at_call 85;refine H1.o.mono ?_;clear H1;rintro e w2 ⟨u2,rfl,bc,hq⟩;obtain⟨bj,bi,bh,bm,rfl⟩:=Jl.form2 bc;clear Qd Qe;obtain⟨Qd,Qe⟩:=(R.below hq).cp;clear Qf Qg;obtain⟨Qf,Qg⟩:=(R.below hq).fp)
 have Qk:=Bt S.o.2.2 hq;have Qi:=S.o.ge 2 rfl;exact BA (v:=.agg #[E bj,C bi bh bm]) (by simp[results,Tryz.results97,go_sem,Qd,Qe]) rfl ⟨_,rfl,bc.box (R.below hq) rfl rfl,(Qk.setCell (p:=⟨_,0,none⟩) Qi _).setCell (p:=⟨_,1,none⟩) Qi _⟩
def Iw(F:Nat->Rat)(n i:Nat)(S:List Rat):Prop:=S.length=n/\∀j,cf S j=if j<i then F j else 0
theorem Iw.next{F:Nat->Rat}(h:Iw F n i S)(b:i<n):Iw F n (i+1) (S.set i (F i)):=by
 refine⟨by rw[Cq];exact h.1,λj=>?_⟩;rw[Xy _ _ _ _ (by rw[h.1];exact b),h.2 j];by_cases e:j=i
 . rw[BG e,BG om,e]
 . rw[BC e];by_cases a:j<i
   . rw[BG a,BG om]
   . rw[BC a,BC om]
theorem Iw.done{F:Nat->Rat}{T:List Rat}(h:Iw F n n S)(a:Jd T=T)(hF:∀j,j<n->cf T j=F j)(b:∀j,n<=j->cf T j=0):Jd S=T:=by
 rw[<-a];refine YM λj=>?_;rw[h.2 j];split
 . exact(hF j (by assumption)).symm
 . exact(b j om).symm
theorem Ss(v vf:I)(ps:List Rat)(f:Rat)(w:H)(h:Jg w v ps)(hf:Jj w vf f)(aw:Db ps)(ap:Sq f)(ak:∀i,Sq (cf ps i*f)):
 Calls Tryz.prog 98 #[v,vf] w λe w'=>∃u,e=.returned u/\Jg w' u (Dq f ps)/\Bl w w':=by
 have Qp:Tryz.prog.follows .mixedOrders=true:=by kernel_rfl
 obtain⟨y,la,x,rfl⟩:=h.form;obtain⟨s,a,l,c,t,b,k,d,rfl⟩:=Jj.form hf;obtain⟨bg,bc,bf,az,_⟩:=h.row.forms;have M0:=((((Mem.nil w).push (.cell 25 (C y la x)) (cs:=#[C y la x]) ⟨rfl,rfl⟩).push (.rat f) (cs:=#[E s,C a l c,E t,C b k d]) (Has.alloc (d:=.rat f) hf _)).push (.cell 25 (C none 0 0)) (cs:=#[C none 0 0]) ⟨rfl,rfl⟩);simp only[A1]at M0;obtain⟨V0,af⟩:=ex (((w.alloc (G #[C y la x] 25)).alloc (G #[E s,C a l c,E t,C b k d] 65)).alloc (G #[C none 0 0] 25));have M1:Mem w V0 [some (w.heap.size,.cell 25 (C y la x)),some (w.heap.size+1,.rat f),some (w.heap.size+1+1,.cell 25 (C none 0 0))]:=by rw[<-af];exact M0
 have Qd:=Ja M1;obtain⟨n,hn⟩:=ex (ps.length:Nat);obtain⟨N,an⟩:=ex ((n:Int)-1:Int);have Qf:=Ja (YA (.agg #[C y la x]) ps V0 (h.below M1.2.2));rw[hn,an]at Qf;have bi:N+1=(n:Int):=om
 have bh:IntKind.i64.wrap (n:Int)=(n:Int):=by rw[BS];omega
 have Qr:∀W:H,(Instr.makeSlice 22 (B .i64 (n:Int)) (B .i64 (n:Int))).run Tryz.prog W=.ok (C (some ⟨W.heap.size,0,none⟩) n n) (W.alloc (G (Ye n) 65)):=λW=>Sp n om W;obtain⟨HP,Qm,Qo,HN⟩:=EC (λ(V:H) (hB:Bl w V)=>h.below hB) aw ak (show ps.length=n from hn);have Qh:n<=1099511627776:=om
 have Qk:=Ja af;have Ql:=Ja ap;clear h aw ak bg bc bf hn an M0 M1 af az hf ap;go_enter Tryz.func98,Tryz.ntmps98
 go_upto_region 1 with fail
 rw[Qk.o];have c0:=(Qd.o.cell (i:=0) rfl).1.cell;go_upto_region 2 with(go_at_call 20;refine Qf.o.mono ?_;clear Qf;rintro e w1 ⟨rfl,am⟩)
 have Qg:Mem w (w1.alloc (G (Ye n) 65)) [some (w.heap.size,.cell 25 (C y la x)),some (w.heap.size+1,.rat f),some (w.heap.size+1+1,.cell 25 (C none 0 0)),some (w1.heap.size,.rats (List.replicate n 0))]:=(Qd.o.below am).push (.rats (List.replicate n 0)) (K9 _ n);obtain⟨V1,ai⟩:=ex (w1.alloc (G (Ye n) 65));obtain⟨A,ad⟩:=ex (w1.heap.size);rw[ai,ad]at Qg;rw[ai,ad];have Qj:=Ja Qg;clear Qg ai ad am c0 Qd Qk Qr;go_wp2;go_loopw [13] (λiv wr=>∃(i:Nat) (S:List Rat),i<=n/\iv=B .i64 (i:Int)/\Hid (Iw (λj=>cf ps j*f) n i S)/\Hid (Mem w wr [some (w.heap.size,.cell 25 (C y la x)),some (w.heap.size+1,.rat f),some (w.heap.size+1+1,.cell 25 (C none 0 0)),some (A,.rats S)])) (λiv _=>n-(intOf iv).toNat)
 case atStart=>exact⟨0,_,AK _,rfl,Ja ⟨Au,λj=>by rw[JN,BC om]⟩,Qj⟩
 case round=>
  obtain⟨i,S,hi,rfl,M,Q⟩:=hrel;clear Qj;by_cases ay:i<n
  . have bk:(i:Int)<(n:Int):=om
    have Qi:=Ja (show i<S.length by rw[M.o.1];exact ay);go_wp2_with fail
    have Qq:=Q.o.drew;refine Jk Qp [[],[],[],[],[2,3],[],[4,5,4],[0,1,0,1,2,3,4,5,6],[7,6,6,0,1,2,3,4,5,6]] (by kernel_rfl) DS
     (λD aj V=>∃(ta tb P Y R tf U ti:I),aj={ tmps:=#[.agg #[C y la x],.agg #[E s,C a l c,E t,C b k d],F (some ⟨w.heap.size,0,none⟩),F (some ⟨w.heap.size+1,0,none⟩),F (some ⟨w.heap.size+1+1,0,none⟩),C (some ⟨A,0,none⟩) n n,B .i64 ↑i,.agg #[C y la x],B .i64 N,B .i64 ↑n,C (some ⟨A,0,none⟩) n n,C (some ⟨A,0,none⟩) n n,B .i64 ↑n,B .i64 ↑i,E true,B .i64 ↑i,ta,tb,P,Y,R,tf,U,ti,u24,undef,undef],defers:=[] }/\Hid ((D 0=true->ta=C (some ⟨A,0,none⟩) n n)/\(D 1=true->tb=B .i64 (i:Int))/\(D 2=true->P=.agg #[C y la x])/\(D 3=true->Y=B .i64 (i:Int))/\(D 4=true->D 8=false->Jj V R (cf ps i))/\(D 5=true->D 8=false->Jj V tf f)/\(D 6=true->D 8=false->Jj V U (cf ps i*f))/\(D 7=true->ti=F (some ⟨A,i*4,none⟩)))/\Hid ((D 8=false->Mem w V [some (w.heap.size,.cell 25 (C y la x)),some (w.heap.size+1,.rat f),some (w.heap.size+1+1,.cell 25 (C none 0 0)),some (A,.rats (S))])/\(D 8=true->Mem w V [some (w.heap.size,.cell 25 (C y la x)),some (w.heap.size+1,.rat f),some (w.heap.size+1+1,.cell 25 (C none 0 0)),some (A,.rats (S.set i (cf ps i*f)))])))
     (E8 ⟨rfl,Ja DQ,Ja ⟨λ_=>Qq,DQ⟩⟩) ?step1 ?fin1
    case step1=>
     rintro D aj V i ds X hi m L ⟨ta,tb,P,Y,R,tf,U,ti,rfl,g,o⟩;have bj:i<9:=(Ac.1 hi).1;obtain rfl|rfl|rfl|rfl|rfl|rfl|rfl|rfl|rfl:=Ov i om
     all_goals
      simp only[Af,Ae,Ag]at hi;subst hi
     . clear m;refine DW ?_;exact⟨(Dh g),o⟩
     . clear m;refine DW ?_;exact⟨(Dp g),o⟩
     . have z:=o.o.1 (DU X L);have N:=(z.cell (i:=0) rfl).1.cell;clear m;refine DW ?_;exact⟨(Dg g),o⟩
     . clear m;refine DW ?_;exact⟨(Di g),o⟩
     . have z:=o.o.1 (DU X L);obtain rfl:=g.o.2.2.1 (m 2 DQ);obtain rfl:=g.o.2.2.2.1 (m 3 DQ);clear m;have HC:=Ja (KD _ ps (i:Int) V (HP.o V z.2.2));rw[KW]at HC;refine Jb rfl rfl λK hK=>?_;go_simp;go_wp2_with(go_at_call 58;refine HC.o.mono ?_;rintro e w5 ⟨v5,rfl,ah,q⟩)
       obtain⟨G0,G1,_,_,_,G5,G6,G7⟩:=g.o;exact E8 ⟨rfl,Ja ⟨G0,G1,λ_=>rfl,λ_=>rfl,λ_ _=>ah,λh J=>(G5 h J).below q,λh J=>(G6 h J).below q,G7⟩,Ja ⟨λh=>(o.o.1 h).below q,λh=>(o.o.2 h).below q⟩⟩
     . have z:=o.o.1 (DU X L);obtain⟨x1,x2,x3,x4,x5,x6,x7,x8,n,r,_,_⟩:=z.rat (i:=1) rfl;obtain⟨N,e1,e2,e3⟩:=n.cq;clear m;refine DW ?_;exact⟨(D0 g λ_ _=>r),o⟩
     . have Qa:D 8=false:=DU X L;have O:=g.o.2.2.2.2.1 (m 4 DQ) Qa;have h1:=Ds g (m 5 DQ) Qa;clear m;have HC:=Ja (Kx _ _ (cf ps i) f V O h1 (Qm.o.at i) Ql.o);clear O h1;refine Jb rfl rfl λK hK=>?_;go_simp;go_wp2_with(go_at_call 52;refine HC.o.mono ?_;rintro e w5 ⟨v5,rfl,ah,q⟩)
       obtain⟨G0,G1,G2,G3,G4,G5,_,G7⟩:=g.o;exact E8 ⟨rfl,Ja ⟨G0,G1,G2,G3,λh J=>(G4 h J).below q,λh J=>(G5 h J).below q,λ_ _=>ah,G7⟩,Ja ⟨λh=>(o.o.1 h).below q,λh=>(o.o.2 h).below q⟩⟩
     . obtain rfl:=g.o.1 (m 0 DQ);obtain rfl:=g.o.2.1 (m 1 DQ);clear m;refine DW ?_;exact⟨(Ls (Dp (Dh g))),o⟩
     . have z:=o.o.1 L;have O:=Dy g (m 6 DQ) L;obtain rfl:=g.o.2.2.2.2.2.2.2 (m 7 DQ);have hE:=z.rats (i:=3) rfl;obtain⟨xa,xb,xc,xd,N,e1,e2,e3,_⟩:=hE.at Qi.o;have f0:=hE.frozen (i*4);have f1:=hE.frozen (i*4+1);have f2:=hE.frozen (i*4+2);have f3:=hE.frozen (i*4+3);obtain⟨s9,a9,l9,c9,t9,b9,k9,d9,rfl⟩:=Jj.form O;clear m;refine DW ?_;exact⟨Ja ⟨g.o.1,g.o.2.1,g.o.2.2.1,g.o.2.2.2.1,λ_ h=>by simp at h,λ_ h=>by simp at h,λ_ h=>by simp at h,λ_=>rfl⟩,Ja ⟨λh=>by simp at h,λ_=>z.putRats (i:=3) rfl Qi.o O⟩⟩
    case fin1=>
     rintro D aj V aq ⟨ta,tb,P,Y,R,tf,U,ti,rfl,g,o⟩;have HO:=Ja (o.o.2 (aq 8 DS));clear g o aq;go_wp2_with fail
     go_roundw
     case rel=>exact⟨i+1,_,om,by go_num,Ja (M.o.next ay),HO⟩
     case measure=>simp[intOf];omega
  . obtain rfl:i=n:=om
    have hE:=Q.o.rats (i:=3) rfl;have Qc:=hE.row (n:=i) (cap:=i) (by rw[M.o.1];exact Aa _) (Aa _) om Qh;rw[Ad (by rw[M.o.1];exact Aa _)]at Qc;have Qe:=Ja (RO _ S wr Qc (Db.of λj=>by
     rw[M.o.2 j];split
     . exact Qo.o j
     . exact Ip))
    rw[M.o.done (T:=Dq f ps) (Yc _ _) (λj hj=>Y2 _ _ _) (λj hj=>by rw[Y2,J4 (by rw[HN.o];exact hj),CQ])]at Qe;clear hE Qc;go_wp2_with(go_at_call 59;refine Qe.o.mono ?_;clear Qe;rintro e w5 ⟨u5,rfl,ae,_,q⟩;obtain⟨a7,l7,c7,rfl⟩:=ae.form;have Z:=boxed_below (Q.o.cell (i:=2) rfl).1 q;have x0:=Z.cell;have x1:=Z.frozen;have Qs:=Ja (FY Z (C a7 l7 c7) ae.row);have Qn:=Ja ((Bt Q.o.2.2 q).setCell (p:=⟨w.heap.size+1+1,0,none⟩) (by show w.heap.size<=w.heap.size+1+1;omega) (C a7 l7 c7));clear ae q Z)
    exact BA (v:=.agg #[C a7 l7 c7]) (by simp[results,Tryz.results98,go_sem,x0]) rfl ⟨_,rfl,⟨_,rfl,Qs.o⟩,Qn.o⟩
end Go.Proofs.YteldjhhjnchdeaaGreatDoor.M3
