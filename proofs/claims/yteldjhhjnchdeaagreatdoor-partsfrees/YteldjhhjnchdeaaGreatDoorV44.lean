import Derived.Test.YteldjhhjnchdeaaGreatDoorV43
open Go.Value renaming slice->C,bool->E,pointer->F,int->B
open Go.Obj renaming cells->G
open Go renaming World->H,Value->I
set_option maxRecDepth 100000
set_option maxHeartbeats 16000000
namespace Go.Proofs.YteldjhhjnchdeaaGreatDoor
section
open Go.RowKit Go.Shelf
attribute [local go_sem] Oper.semAt_some
def lenOf:I->Nat|C _ l _=>l|_=>0
def LE(w V:H)(a b:I)(Q R:List Rat):Prop:=RowK false V a Q/\RowK false V b R/\Bl w V
theorem LE.below{w V V':H}{b c:I}{Q R:List Rat}(h:LE w V b c Q R)(a:Bl V V'):LE w V' b c Q R:=⟨h.1.below a,h.2.1.below a,Bt h.2.2 a⟩
def LF(w wr V:H)(a b:I)(Q R:List Rat):Prop:=LE w V a b Q R/\Bl wr V
theorem LF.below{w wr V V':H}{b c:I}{Q R:List Rat}(h:LF w wr V b c Q R)(a:Bl V V'):LF w wr V' b c Q R:=⟨h.1.below a,Bt h.2 a⟩
def Hz(S:Nat->List Rat->List Rat->Prop)(la:Nat)(ps qs R Q:List Rat)(k:Nat):Prop:=
 Jd R=R/\Jd Q=Q/\k+R.length<=la/\Q.length<=la/\(∀x,ev ps x=ev qs x*ev Q x+ev R x)/\(∀i,i+qs.length<=R.length->cf Q i=0)/\S k R Q
structure DivS(A la:Nat)(S:Nat->List Rat->List Rat->Prop)(qs:List Rat):Prop where
 next:∀(k:Nat) (R Q:List Rat) (n:Nat) (a:Rat),S k R Q->(∀i,i+qs.length<=R.length->cf Q i=0)->qs.length<=R.length->n=R.length-qs.length->a=cf R (R.length-1)/cf qs (qs.length-1)->
  (∀i,cf (J3 R (JQ (Jd (Dl n [a])) qs)) i=cf R i-(if n<=i then a*cf qs (i-n)else 0))->(∀i,cf (ES Q (Jd (Dl n [a]))) i=if i=n then a else cf Q i)->S (k+1) (J3 R (JQ (Jd (Dl n [a])) qs)) (ES Q (Jd (Dl n [a])))
 size:∀(k:Nat) (R Q:List Rat),k<=la->S k R Q->DZ R/\DZ Q/\∃z,z+(2*A+1)<=1000000/\∀i,Dd z (cf R i)
variable{ps qs:List Rat}{S:Nat->List Rat->List Rat->Prop}
theorem Hz.start(a:Jd ps=ps)(h:S 0 ps []):Hz S ps.length ps qs ps [] 0:=by
 refine⟨a,rfl,Y,O,λx=>?_,λi _=>YS i,h⟩;show _=ev qs x*0+_;grind
theorem Hz.next{A la:Nat}{S:Nat->List Rat->List Rat->Prop}{ps qs R Q:List Rat}{k n:Nat}{a:Rat}(o:DivS A la S qs)(h:Hz S la ps qs R Q k)(q:Jd qs=qs)(g:qs≠[])(hl:qs.length<=R.length)(f:n=R.length-qs.length)
(d:a=cf R (R.length-1)/cf qs (qs.length-1)):Hz S la ps qs (J3 R (JQ (Jd (Dl n [a])) qs)) (ES Q (Jd (Dl n [a]))) (k+1):=by
 obtain⟨r,s,t,u,l,c,m⟩:=h;have w:0<qs.length:=Ar.2 g;have j:∀i,cf (J3 R (JQ (Jd (Dl n [a])) qs)) i=cf R i-(if n<=i then a*cf qs (i-n)else 0):=λi=>by rw[Kf,MY]
 have b:∀i,cf (ES Q (Jd (Dl n [a]))) i=if i=n then a else cf Q i:=λi=>by
  rw[O0,MX];split
  . rename_i e;rw[e,c n Y,Rat.zero_add]
  . exact FM _
 have v:=R9 q g hl f d;refine⟨I0 _ _,X8 _ _,Y,Xx (X8 _ _) λi p=>?_,λx=>?_,λi p=>?_,o.next k R Q n a m c hl f d j b⟩
 . rw[b,BC Y,J1 Y]
 . rw[Ke,LV,Xf,R7,l x];grind
 . rw[b,BC Y];exact c i Y
theorem Hz.done{la:Nat}{R Q:List Rat}{k:Nat}(h:Hz S la ps qs R Q k)(b:Jd qs=qs)(a:qs≠[])(hl:R.length<qs.length):Q=YE ps qs/\R=J2 ps qs:=by
 obtain⟨g,i,_,_,j,_⟩:=h;obtain⟨c,d,e,f⟩:=YF ps qs b a;exact Oy b a i e g f hl d (λx=>by rw[<-j x,<-c x])
theorem Sd(S:Nat->List Rat->List Rat->Prop)(A:Nat)(va vb:I)(ps qs:List Rat)(w:H)(ha:RowK false w va ps)(hb:RowK false w vb qs)(ay:DivS A ps.length S qs)(l:S 0 ps [])(hq:∀i,Dd A (cf qs i))(bf:Jd ps=ps)(bg:Jd qs=qs)(af:qs≠[])(fa:ps.length<=1000):
 Calls Tryz.prog 41 #[va,vb] w λe w'=>∃u v,e=.returned (.tuple #[u,v])/\RowK false w' u (YE ps qs)/\RowK false w' v (J2 ps qs)/\Bl w w':=by
 have Uf:Tryz.prog.follows .mixedOrders=true:=by kernel_rfl
 obtain⟨a,la,ca,rfl⟩:=ha.form;obtain⟨b,lb,cb,rfl⟩:=hb.form;obtain⟨f8,ei,ew,f9,_⟩:=ha.formsF;obtain⟨dp,et,f6,dt,s',t',bk,bm,ed,cl,dz,cn,de⟩:=hb.formsF;have Uo:0<qs.length:=Ar.2 af;have Qi:=J (KG _ ps w ha);rw[bf]at Qi;obtain⟨HB,Um,HQ,Qe,Qg,Qm,Qk,Ua⟩:=Hp de hb hq bg af dp ay (JB bg af);have Qw:=J (show DZ qs from DZ.of λi=>Sq.of (hq i) (by
  obtain⟨_,_,z,h1,_⟩:=ay.size 0 ps [] (AK _) l;omega))
 have Qc:=J (Hz.start (qs:=qs) bf l);obtain⟨lp,du⟩:=ex (ps.length);rw[du]at Qc Qk;have fm:1<=lb:=Y
 have fo:lb<=1099511627776:=dt;have fr:lp<=1000:=Y
 clear ha hb l ay hq bf bg af f8 dp ei ew et f6 f9 dt de Uo fa du;go_enter Tryz.func41,Tryz.ntmps41
 go_wp2_with(go_at_call 45;refine Qi.o.mono ?_;clear Qi;rintro e w0 ⟨u0,rfl,ae,ct⟩;obtain⟨a0,l0,c0,rfl⟩:=ae.form)
 go_loopw [6,7,8] (λqv rv _ wr=>∃(k lr:Nat) (Q R:List Rat),(∃ra rc,rv=C ra lr rc)/\(∃W ql X,qv=C W ql X)/\lr<=1000/\Hid (lr=R.length)/\Hid (LE w wr qv rv Q R)/\Hid (Hz S lp ps qs R Q k)) λ_ rv _ _=>lenOf rv
 case atStart=>exact⟨0,_,[],ps,⟨_,_,rfl⟩,⟨_,_,_,rfl⟩,by obtain⟨_,_,e,_⟩:=id ae;cases e;have:=Qc.o.2.2.1;omega,J (by obtain⟨_,_,e,_⟩:=id ae;cases e;rfl),J ⟨RowK.nil _ _,ae,ct⟩,Qc⟩
 case round=>
  clear ae ct Qc;obtain⟨k,lr,Q,R,⟨ra,rc,rfl⟩,⟨W,ql,X,rfl⟩,fs,P,HX,HD⟩:=hrel;by_cases fh:lb<=lr
  . have Qj:(lb:Int)<=(lr:Int):=Y
    obtain⟨n,hn⟩:=ex (lr-lb:Nat);obtain⟨m,hm⟩:=ex (lr-1:Nat);obtain⟨g,f7⟩:=ex (lb-1:Nat);have fw:(lr:Int)-(lb:Int)=(n:Int):=Y
    have ft:(lr:Int)-1=(m:Int):=Y
    have fj:(lb:Int)-1=(g:Int):=Y
    have fx:IntKind.i64.wrap (n:Int)=(n:Int):=by rw[BS];omega
    have fu:IntKind.i64.wrap (m:Int)=(m:Int):=by rw[BS];omega
    have fk:IntKind.i64.wrap (g:Int)=(g:Int):=by rw[BS];omega
    have fv:(m:Int)<(lr:Int):=Y
    have fl:(g:Int)<(lb:Int):=Y
    have M:=J (show n=R.length-qs.length/\m=R.length-1/\g=qs.length-1/\qs.length<=R.length by have:=P.o;have:=Qm.o;omega);have Qd:=J (show n<1099511627775/\n+1<=1001 by omega);obtain⟨fb,fc,fd,fe,s,t,aa,bb,ll,cc,kk,dd,dh⟩:=HX.o.2.1.formsF;clear fb fc fd fe;obtain⟨di,o,rfl,ad,bn,bt,bu,ce⟩:=dh m Y;obtain⟨dj,q,rfl,L,cg,ci,cj,ck⟩:=HB.o g Y;have Qh:=J (show ∀V,Bl wr V->(V.cell? ⟨o,m*4,none⟩=some (C (aa m) (ll m) (cc m))/\V.cell? ⟨o,m*4+1,none⟩=some (E (s m))/\V.cell? ⟨o,m*4+2,none⟩=some (C (bb m) (kk m) (dd m))/\V.cell? ⟨o,m*4+3,none⟩=some (E (t m)))/\Jr V (.agg #[C (aa m) (ll m) (cc m),E (s m),C (bb m) (kk m) (dd m),E (t m)]) (cf R m)from λV r=>by
     exact⟨⟨(r.cell (p:=⟨o,_,none⟩) ad).trans bn,(r.cell (p:=⟨o,_,none⟩) ad).trans bt,(r.cell (p:=⟨o,_,none⟩) ad).trans bu,(r.cell (p:=⟨o,_,none⟩) ad).trans ce⟩,di.below r⟩)
    have Qn:=J (show ∀V,Bl w V->(V.cell? ⟨q,g*4,none⟩=some (C (bk g) (ed g) (cl g))/\V.cell? ⟨q,g*4+1,none⟩=some (E (s' g))/\V.cell? ⟨q,g*4+2,none⟩=some (C (bm g) (dz g) (cn g))/\V.cell? ⟨q,g*4+3,none⟩=some (E (t' g)))/\Jr V (.agg #[C (bk g) (ed g) (cl g),E (s' g),C (bm g) (dz g) (cn g),E (t' g)]) (cf qs g)from λV r=>by
     exact⟨⟨(r.cell (p:=⟨q,_,none⟩) L).trans cg,(r.cell (p:=⟨q,_,none⟩) L).trans ci,(r.cell (p:=⟨q,_,none⟩) L).trans cj,(r.cell (p:=⟨q,_,none⟩) L).trans ck⟩,dj.below r⟩)
    obtain⟨sR,sQ,z,hz,dx⟩:=Qk.o.size k R Q (by have:=HD.o.2.2.1;omega) HD.o.2.2.2.2.2.2;obtain⟨x,hx⟩:=ex (cf R m/cf qs g);have Qr:=J (show x=cf R (R.length-1)/cf qs (qs.length-1)by rw[<-hx,<-M.o.2.1,<-M.o.2.2.1]);have Qx:=J (show cf qs g≠0 by rw[M.o.2.2.1];exact Ua.o);have Qf:Dd (z+A) x:=by rw[<-hx];exact(dx m).div2 (HQ.o g) Qx.o
    obtain⟨Ug,Qq,Qp,Uj,Un,Ul,Qt⟩:=Lt (show Sq x from Sq.of Qf Y) (show ∀j,Sq (x*cf qs j)from λj=>Sq.of (Qf.mul2 (HQ.o j)) Y) sR sQ hx (HD.o.next Qk.o Qe.o Qg.o M.o.2.2.2 M.o.1 Qr.o) (R9 Qe.o Qg.o M.o.2.2.2 M.o.1 Qr.o);have Qo:=J (show DZ (Jd (Dl n [x]))from DZ.of λi=>by
     rw[MX];split
     . exact Ug.o
     . exact Sq.of (Dd.zero 1 Y) Y)
    have Qy:=J (show DZ (JQ (Jd (Dl n [x])) qs)from DZ.of λi=>by
     rw[MY];split
     . exact Qq.o _
     . exact Sq.of (Dd.zero 1 Y) Y)
    have Ub:=J (show M3.X1 (Jd (Dl n [x])) qs from dA (n:=n) (λi T=>by rw[MX,BC T]) λj=>by rw[MX,BG rfl];exact Qq.o j);have Qu:=J (cr n x);have Qz:=J (show(JQ (Jd (Dl n [x])) qs).length<1099511627776 by
     have h1:(JQ (Jd (Dl n [x])) qs).length<=R.length:=Xx (X9 _ _) (λi T=>by
      rw[MY];split
      . rw[J1 (p:=qs) (by have:=M.o;omega),FV]
      . rfl)
     have:=P.o;omega)
    have Qv:=J (show Q.length<1099511627776/\R.length<1099511627776 by have:=HD.o.2.2.2.1;have:=P.o;omega);clear di ad bn bt bu ce dj L cg ci cj ck dh hz dx sR sQ hx Qf hn hm f7;go_wp2_with fail
    have Ud:LF w wr wr.drew (C W ql X) (C (some ⟨o,0,none⟩) lr rc) Q R:=⟨HX.o.below ((BB _ wr).drew),(BB _ wr).drew⟩;refine Jl Uf [[],[0],[],[2],[1,3],[],[],[6],[7],[5,8],[9],[],[],[12],[13],[11,14],[15],[10,16],[4,17,17],[18,18,0,1,2,3,4,5,6,7,8,9,10,11,12,13,14,15,16,17,18]] (by kernel_rfl) DQ
     (λD aw V=>∃(ta tb tc td te tf tg ti tj tk tl tm tn tp tq tr ts tt tu tv:I),aw={ tmps:=#[C a la ca,C (some ⟨q,0,none⟩) lb cb,undef,undef,C none 0 0,C none 0 0,C W ql X,C (some ⟨o,0,none⟩) lr rc,tv,C a la ca,C a0 l0 c0,C (some ⟨o,0,none⟩) lr rc,B .i64 ↑lr,C (some ⟨q,0,none⟩) lb cb,B .i64 ↑lb,E true,ta,tb,tc,td,te,tf,tg,ti,tj,tk,tl,tm,tn,tp,tq,tr,ts,tt,tu,u35,u36,u37,u38,u39,u40,u41,u42,undef,undef],defers:=[] }/\Hid ((D 0=true->ta=C (some ⟨o,0,none⟩) lr rc)/\(D 1=true->tb=B .i64 (lr:Int))/\(D 2=true->tc=C (some ⟨q,0,none⟩) lb cb)/\(D 3=true->td=B .i64 (lb:Int))/\(D 4=true->te=B .i64 (n:Int))/\(D 5=true->tf=C (some ⟨o,0,none⟩) lr rc)/\(D 6=true->tg=C (some ⟨o,0,none⟩) lr rc)/\(D 7=true->ti=B .i64 (lr:Int))/\(D 8=true->tj=B .i64 (m:Int))/\(D 9=true->tk=F (some ⟨o,m*4,none⟩))/\(D 10=true->Jr V tl (cf R m))/\(D 11=true->tm=C (some ⟨q,0,none⟩) lb cb)/\(D 12=true->tn=C (some ⟨q,0,none⟩) lb cb)/\(D 13=true->tp=B .i64 (lb:Int))/\(D 14=true->tq=B .i64 (g:Int))/\(D 15=true->tr=F (some ⟨q,g*4,none⟩))/\(D 16=true->Jr V ts (cf qs g))/\(D 17=true->Jr V tt x)/\(D 18=true->RowK false V tu (Jd (Dl n [x])))/\(D 19=true->RowK false V tv (Jd (Dl n [x]))))/\Hid (LF w wr V (C W ql X) (C (some ⟨o,0,none⟩) lr rc) Q R))
     (Ea ⟨_,_,_,_,rfl,J ⟨O,O,O,O,O,O,O,O,O,O,O,O,O,O,O,O,O,O,O,O⟩,J Ud⟩) ?step1 ?fin1
    case step1=>
     rintro D aw V i ds fg T f ff ⟨ta,tb,tc,td,te,tf,tg,ti,tj,tk,tl,tm,tn,tp,tq,tr,ts,tt,tu,tv,rfl,d,c⟩;have fi:i<20:=(Ac.1 T).1;obtain rfl|rfl|rfl|rfl|rfl|rfl|rfl|rfl|rfl|rfl|rfl|rfl|rfl|rfl|rfl|rfl|rfl|rfl|rfl|rfl:=Mp i Y
     all_goals
      simp only[Af,Ae,Ag]at T;subst T
     . have l:=c.o;clear f;refine DT ?_;exact⟨(Dg d),J (c.o)⟩
     . have l:=c.o;obtain rfl:=d.o.1 (f 0 O);clear f;refine DT ?_;exact⟨(Do (Dg d)),J (c.o)⟩
     . have l:=c.o;clear f;refine DT ?_;exact⟨(Df d),J (c.o)⟩
     . have l:=c.o;obtain rfl:=d.o.2.2.1 (f 2 O);clear f;refine DT ?_;exact⟨(Dj (Df d)),J (c.o)⟩
     . have l:=c.o;obtain rfl:=d.o.2.1 (f 1 O);obtain rfl:=d.o.2.2.2.1 (f 3 O);clear f;refine DT ?_;exact⟨(Dz (Dj (Do d))),J (c.o)⟩
     . have l:=c.o;clear f;refine DT ?_;exact⟨(D0 d),J (c.o)⟩
     . have l:=c.o;clear f;refine DT ?_;exact⟨(Dx d),J (c.o)⟩
     . have l:=c.o;obtain rfl:=Ds d (f 6 O);clear f;refine DT ?_;exact⟨(ED (Dx d)),J (c.o)⟩
     . have l:=c.o;obtain rfl:=Du d (f 7 O);clear f;refine DT ?_;exact⟨(EK (ED d)),J (c.o)⟩
     . have l:=c.o;obtain rfl:=Dp d (f 5 O);obtain rfl:=D6 d (f 8 O);clear f;refine DT ?_;exact⟨(Es (EK (D0 d))),J (c.o)⟩
     . have l:=c.o;obtain rfl:=EE d (f 9 O);obtain⟨⟨e0,e1,e2,e3⟩,hr⟩:=Qh.o V l.2;clear f;refine DT ?_;exact⟨(D8 (Es d) λ_=>hr),J (c.o)⟩
     . have l:=c.o;clear f;refine DT ?_;exact⟨(D9 d),J (c.o)⟩
     . have l:=c.o;clear f;refine DT ?_;exact⟨(EG d),J (c.o)⟩
     . have l:=c.o;obtain rfl:=Ek d (f 12 O);clear f;refine DT ?_;exact⟨(EP (EG d)),J (c.o)⟩
     . have l:=c.o;obtain rfl:=GL d (f 13 O);clear f;refine DT ?_;exact⟨(Ej (EP d)),J (c.o)⟩
     . have l:=c.o;obtain rfl:=Ee d (f 11 O);obtain rfl:=Gk d (f 14 O);clear f;refine DT ?_;exact⟨(Hl (Ej (D9 d))),J (c.o)⟩
     . have l:=c.o;obtain rfl:=Kr d (f 15 O);obtain⟨⟨e0,e1,e2,e3⟩,hr⟩:=Qn.o V l.1.2.2;clear f;refine DT ?_;exact⟨(NZ (Hl d) λ_=>hr),J (c.o)⟩
     . have l:=c.o;have N:=Dr d (f 10 O);have h1:=Nf d (f 16 O);clear f;have HC:=J (RV _ _ (cf R m) (cf qs g) V N h1 (Qp.o.at m) (Qw.o.at g) Qx.o);rw[Un.o]at HC;clear N h1;refine Jb rfl rfl λK hK=>?_;go_simp;go_wp2_with(go_at_call 77;refine HC.o.mono ?_;rintro e w5 ⟨v5,rfl,bj,y⟩)
       obtain⟨G0,G1,G2,G3,G4,G5,G6,G7,G8,G9,ah,ai,aj,ak,am,an,ap,_,eh,aq⟩:=d.o;exact Ea ⟨_,_,_,_,rfl,J ⟨G0,G1,G2,G3,G4,G5,G6,G7,G8,G9,λh=>(ah h).below y,ai,aj,ak,am,an,λh=>(ap h).below y,λ_=>bj,λh=>(eh h).below y,λh=>(aq h).below y⟩,J (c.o.below y)⟩
     . have l:=c.o;have N:=Ng d (f 17 O);obtain rfl:=d.o.2.2.2.2.1 (f 4 O);clear f;have HC:=J (K6 _ n x V N Qd.o.1);clear N;refine Jb rfl rfl λK hK=>?_;go_simp;go_wp2_with(go_at_call 78;refine HC.o.mono ?_;rintro e w5 ⟨v5,rfl,bj,y⟩)
       obtain⟨G0,G1,G2,G3,_,G5,G6,G7,G8,G9,ah,ai,aj,ak,am,an,ap,ef,_,aq⟩:=d.o;exact Ea ⟨_,_,_,_,rfl,J ⟨G0,G1,G2,G3,λ_=>rfl,G5,G6,G7,G8,G9,λh=>(ah h).below y,ai,aj,ak,am,an,λh=>(ap h).below y,λh=>(ef h).below y,λ_=>bj,λh=>(aq h).below y⟩,J (c.o.below y)⟩
     . have l:=c.o;have N:=Nh d (f 18 O);clear f;refine DT ?_;exact⟨(Nd d λ_=>N),J (c.o)⟩
    case fin1=>
     rintro D aw V co ⟨ta,tb,tc,td,te,tf,tg,ti,tj,tk,tl,tm,tn,tp,tq,tr,ts,tt,tu,tv,rfl,d,c⟩;have hM:=d.o.2.2.2.2.2.2.2.2.2.2.2.2.2.2.2.2.2.2.2 (co 19 DQ);have HV:=J c.o.1;clear d c co;obtain⟨a9,l9,c9,rfl⟩:=hM.form;have HM:=J hM;clear hM;obtain⟨H1,H2,H3⟩:=Dk (IJ _ _ Q (Jd (Dl n [x])) V HV.o.1 HM.o Uj.o Qo.o ⟨Qv.o.1,by have:=Qu.o;have:=Qd.o;omega⟩) (λ(U:H) (h:Bl V U)=>OR _ _ (Jd (Dl n [x])) qs U (HM.o.below h) (Um.o.below (Bt HV.o.2.2 h)) Qo.o Qw.o Ub.o (by have:=Qu.o;have:=Qd.o;have:=Qm.o;omega)) λ(U:H) (h:Bl V U) (v:I) (hv:RowK false U v (JQ (Jd (Dl n [x])) qs))=>It _ v R _ U (HV.o.2.1.below h) hv Qp.o Qy.o ⟨Qv.o.2,Qz.o⟩;go_wp2_with(first
      |(go_at_call 64;refine H1.o.mono ?_;clear H1;rintro e w1 ⟨u1,rfl,bh,bc⟩;obtain⟨a1,l1,c1,rfl⟩:=bh.form;have Ui:=J bh;clear bh)
      |(go_at_call 14;refine(H2.o _ bc).mono ?_;clear H2;rintro e w2 ⟨u2,rfl,dw,L⟩;have Ql:=Bt bc L;have Uh:=J (Ui.o.below L);clear L)
      |(go_at_call 63;refine(H3.o _ Ql _ dw).mono ?_;clear H3;rintro e w3 ⟨u3,rfl,bi,az⟩;obtain⟨a3,c3,rfl,_⟩:=id bi;have Uk:=J bi;have Uc:=J (Bt Ql az);have Ue:=J (Uh.o.below az);clear dw bi az bc Ql))
     go_roundw
     case rel=>exact⟨k+1,_,_,_,⟨_,_,rfl⟩,⟨_,_,_,rfl⟩,by have:=Qt.o;have:=P.o;omega,J rfl,J ⟨Ue.o,Uk.o,Bt HV.o.2.2 Uc.o⟩,Ul⟩
     case measure=>
      show(J3 R _).length<lr;have:=Qt.o;have:=P.o;omega
  . have Qj:¬(lb:Int)<=(lr:Int):=Y
    have Qs:=J (HD.o.done Qe.o Qg.o (by have:=P.o;have:=Qm.o;omega));go_wp2_with fail
    exact BA (v:=.tuple #[C W ql X,C ra lr rc]) (by simp[results,Tryz.results41,go_sem]) rfl ⟨_,_,rfl,by rw[<-Qs.o.1];exact HX.o.1,by rw[<-Qs.o.2];exact HX.o.2.1,HX.o.2.2⟩
end
section
open Go.RowKit Go.Shelf
section
variable {D E l:Int} {K A:Nat} {ps qs:List Rat}
structure Dvn(D E l:Int)(K A:Nat)(ps qs:List Rat):Prop where
 hD:D≠0
 sD:Sm K D
 hp:EJ D K ps
 hE:E≠0
 sE:Sm A E
 hq:EJ E A qs
 hl:l≠0
 sl:Sm A l
 lead:cf qs (qs.length-1)=Rat.divInt l E
variable{m:Nat}
theorem Dvn.lne(h:Dvn D E l K A ps qs):cf qs (qs.length-1)≠0:=by
 rw[h.lead];intro e;have hE:(E:Rat)≠0:=by exact_mod_cast h.hE
 have a:(l:Rat)/(E:Rat)*(E:Rat)=l:=Cp hE;rw[<-CU,e,CJ]at a;exact h.hl (by exact_mod_cast a.symm)
theorem Dvn.sq(h:Dvn D E l K A ps qs)(i:Nat):Dd A (cf qs i):=(h.hq i).smq h.hE h.sE
theorem Dvn.den(h:Dvn D E l K A ps qs)(k:Nat):D*l^k≠0/\Sm (K+k*(A+1)+1) (D*l^k):=by
 refine⟨Co h.hD (Int.pow_ne_zero h.hl),(h.sD.mul (h.sl.powZ k)).mono ?_⟩;rw[Ax];omega
theorem Dvn.at(h:Dvn D E l K A ps qs)(k:Nat):(∀i,Dd (K+k*(A+1)+1) (cf (JE ps qs (qs.length-1) m k).2 i))/\∀i,Dd (K+k*(A+1)+1) (cf (JE ps qs (qs.length-1) m k).1 i):=by
 have b:=SK (m:=m) h.hD h.hp h.hE h.sE h.hq h.hl h.sl h.lead h.lne k;have a:=h.den k;exact⟨λi=>((b.1 i).mono Y).smq a.1 a.2,λi=>((b.2 i).mono Y).smq a.1 a.2⟩
theorem Dvn.sizes(h:Dvn D E l K A ps qs)(c:2*(K+m*(A+1)+1)+2*(2*A+1)<=1000000):∀k,k<=m->∃z,z+(2*A+1)<=1000000/\(k<m->2*z+2*(2*A+1)<=1000000)/\(∀i,Dd z (cf (JE ps qs (qs.length-1) m k).2 i))/\∀i,Dd (z+A) (cf (JE ps qs (qs.length-1) m k).1 i):=by
 intro k a;have b:k*(A+1)<=m*(A+1):=Ak _ a;exact⟨K+k*(A+1)+1,Y,λ_=>by omega,(h.at k).1,λi=>((h.at k).2 i).mono Y⟩
theorem Dvn.rem(h:Dvn D E l K A ps qs)(b:ps.length-(qs.length-1)=m):EJ (D*l^m) (K+m*(A+1)) (J2 ps qs)/\EJ (D*l^m) (K+m*(A+1)) (YE ps qs):=by
 have a:=SK (m:=m) h.hD h.hp h.hE h.sE h.hq h.hl h.sl h.lead h.lne m;refine⟨λi=>?_,λi=>?_⟩
 . unfold J2;rw[JU,b];exact a.1 i
 . unfold YE;rw[JU,b];exact a.2 i
theorem Dvn.divS(h:Dvn D E l K A ps qs)(la:Nat)(M:K+la*(A+1)+1+(2*A+1)<=1000000):DivS A la (λk R Q=>EJ (D*l^k) (K+k*(A+1)) R/\EJ (D*l^k) (K+k*(A+1)) Q) qs:=by
 refine⟨?_,?_⟩
 . rintro k R Q n a ⟨b,d⟩ _ _ _ u w v;have q:D*l^k≠0:=(h.den k).1;have e:D*l^(k+1)=D*l^k*l:=by rw[Int.pow_succ,CP]
   rw[e];have p:D*l^k*l≠0:=Co q h.hl;obtain⟨r,t,g⟩:=b (R.length-1);have f:a=Rat.divInt (r*E) (D*l^k*l):=by
    rw[u];have s:cf R (R.length-1)=Rat.divInt (r*E) (D*l^k*l)*cf qs (qs.length-1):=by
     rw[h.lead,CV,t,show r*E*l=r*(E*l)from CP _ _ _,show D*l^k*l*E=D*l^k*(E*l)by rw[CP (D*l^k),Fk l E],CZ (Co h.hE h.hl)]
    rw[s,Rat.mul_div_cancel h.lne]
   have m:CD (D*l^k*l) (K+(k+1)*(A+1)) a:=⟨r*E,f,(g.mul h.sE).mono (by rw[Ay];omega)⟩;have o:∀j,CD (D*l^k*l) (K+k*(A+1)+A) (a*cf qs j):=λj=>by
    obtain⟨x,ex,z⟩:=h.hq j;refine⟨r*x,?_,g.mul z⟩;rw[f,ex,CV,show r*E*x=r*x*E by rw[CP,Fk E x,CP],CZ h.hE]
   refine⟨λi=>?_,λi=>?_⟩
   . rw[w];split
     . rw[FC];exact(((b i).wide h.sl h.hl).add (SJ (o _)) p).mono (by rw[Ay];omega)
     . rw[FC,Rat.neg_zero,FM];exact((b i).wide h.sl h.hl).mono (by rw[Ay];omega)
   . rw[v];split
     . exact m
     . exact((d i).wide h.sl h.hl).mono (by rw[Ay];omega)
 . rintro k R Q y ⟨b,d⟩;have L:k*(A+1)<=la*(A+1):=Ak _ y;have c:=h.den k;exact⟨DZ.of λi=>Sq.of (((b i).mono Y).smq c.1 c.2) Y,DZ.of λi=>Sq.of (((d i).mono Y).smq c.1 c.2) Y,K+k*(A+1)+1,Y,λi=>((b i).mono Y).smq c.1 c.2⟩
theorem Dvn.start(h:Dvn D E l K A ps qs):EJ (D*l^0) (K+0*(A+1)) ps/\EJ (D*l^0) (K+0*(A+1)) []:=by
 rw[Int.pow_zero,Int.mul_one];exact⟨λi=>(h.hp i).mono Y,λi=>by rw[YS];exact CD.zero _ _⟩
end
def Eo(A:Nat)(p:List Rat):Prop:=∀i,∃z:Int,Sm A z/\cf p i=(z:Rat)
variable{p:List Rat}{A:Nat}
theorem Eo.cdl(h:Eo A p):EJ 1 A p:=λi=>by
 obtain⟨z,a,b⟩:=h i;exact Mh DQ a (by rw[b];grind)
theorem Eo.mono{A B:Nat}{p:List Rat}(h:Eo A p)(c:A<=B):Eo B p:=λi=>by
 obtain⟨z,a,b⟩:=h i;exact⟨z,a.mono c,b⟩
theorem Eo.ln{A:Nat}{p:List Rat}(h:Eo A p):Ln A p:=h.cdl.ln DQ
theorem Eo.smq{A:Nat}{p:List Rat}(h:Eo A p)(a:1<=A)(i:Nat):Dd A (cf p i):=(h.cdl i).smq DQ (Sm.one A a)
theorem Se(hp:Jd p=p)(d:p≠[])(h:Ln A p):∃E:Int,E≠0/\Sm A E/\EJ E A (JF p):=by
 obtain⟨c,k,b⟩:=h;have hl:=JB hp d;obtain⟨E,f,a⟩:=b (p.length-1);have hE:E≠0:=λe=>by
  rw[e]at a;exact Hx hl k a
 refine⟨E,hE,f,λi=>?_⟩;obtain⟨z,g,j⟩:=b i;refine Mh hE g ?_;unfold JF;rw[Y6,<-j,<-a];grind
theorem Ln.sqs(hp:Jd p=p)(h:Ln A p)(hA1:1<=A):∀i,Dd A (cf (JF p) i):=by
 by_cases a:p=[]
 . subst a;intro i;rw[dU,YS];exact Dd.zero _ hA1
 . obtain⟨E,b,c,d⟩:=Se hp a h;exact λi=>(d i).smq b c
end
section
variable{p q:List Rat}{c:Rat}
theorem dl(c:Rat):Yu c=c\/Yu c=-c:=by
 unfold Yu;split
 . exact Or.inr rfl
 . exact Or.inl rfl
theorem dm(h:c≠0):Yu c≠0:=by
 rcases dl c with e|e
 . rw[e];exact h
 . rw[e];intro a;exact h (by rw[<-Rat.neg_neg c,a];rfl)
theorem dq(h:c≠0):∀n:Nat,c^n≠0:=by
 intro n;induction n with
 |zero=>rw[Rat.pow_zero];decide
 |succ n a=>rw[Rat.pow_succ];exact Hx a h
def Gq(p q:List Rat):Rat:=Yu (cf q (q.length-1))^(p.length+1-q.length)
def Xe(p q:List Rat):List Rat:=Dn (Gq p q) p
def Ep(p q:List Rat):List Rat:=J3 [] (YV (J2 (Xe p q) q))
theorem eA:YV []=[]:=rfl
theorem KU(p:List Rat):Jd (YV p)=YV p:=Yc _ _
theorem Mj(hp:Jd p=p):∃c:Rat,0<c/\YV p=Dn c p:=by
 by_cases a:p=[]
 . subst a;exact⟨1,DQ,rfl⟩
 . exact⟨_,dk hp a,rfl⟩
theorem LG(hp:Jd p=p){K:Nat}(h:Ln K p):Eo K (YV p):=by
 by_cases a:p=[]
 . subst a;exact λi=>⟨0,Sm.zero K,by rw[eA,YS];rfl⟩
 . exact Sc hp a h
theorem Og(hq:Jd q=q)(a:q≠[]):Gq p q≠0:=dq (dm (JB hq a)) _
theorem Mk(p q:List Rat):Jd (Ep p q)=Ep p q:=I0 _ _
theorem Oh(hq:Jd q=q)(b:q≠[]):∃c:Rat,c≠0/\Ep p q=Dn c (J2 p q)/\Ep p q=Dn (-1) (YV (J2 (Xe p q) q)):=by
 have a:Ep p q=Dn (-1) (YV (J2 (Xe p q) q)):=IC (Mk _ _) (Yc _ _) λx=>by
  unfold Ep;rw[LV,Xd];simp[ev];grind
 have f:=(Md (c:=Gq p q) (d:=1) DQ p q hq b).2;rw[LD hq]at f;obtain⟨c,g,j⟩:=Mj (YR (Xe p q) q);have i:c≠0:=λe=>by rw[e]at g;exact absurd g DQ
 refine⟨Gq p q*c*-1,Hx (Hx (Og hq b) i) DQ,?_,a⟩;rw[a,j];unfold Xe;rw[f,Ob,Ob,Rat.mul_assoc]
theorem Sf(hq:Jd q=q)(a:q≠[]){A:Nat}(h:Ln A (J2 p q)):Eo A (YV (J2 (Xe p q) q))/\Eo A (Ep p q):=by
 have b:=(Md (c:=Gq p q) (d:=1) DQ p q hq a).2;rw[LD hq]at b;have f:Eo A (YV (J2 (Xe p q) q)):=LG (YR _ _) (by unfold Xe;rw[b];exact h.sc (Og hq a));refine⟨f,λi=>?_⟩;obtain⟨z,g,j⟩:=f i;obtain⟨_,_,_,e⟩:=Oh (p:=p) hq a;exact⟨-z,g.neg,by rw[e,Y6,j,Rat.intCast_neg];grind⟩
structure Chn(p q:List Rat)(A:Nat)(a b:List Rat):Prop where
 ta:Jd a=a
 tb:Jd b=b
 wa:Eo A a
 wb:Eo A b
 gc:JZ a b=JZ p q
 la:a.length<=max p.length q.length
 lb:b.length<=q.length
 nx:b≠[]->Ln A (J2 a b)
 eu:Eu (YV p) (YV q) a b
def De(K:Nat)(p q:List Rat):Nat:=(K+1)*(p.length+q.length+1)
theorem Hd(K:Nat)(p q:List Rat):K+1<=De K p q:=by
 unfold De;have:(K+1)*1<=(K+1)*(p.length+q.length+1):=Av _ Y;omega
theorem Sg(K:Nat)(p q:List Rat):(K+1)*(p.length+q.length)<=De K p q:=Av _ Y
theorem XQ(hp:Jd p=p):(YV p).length=p.length:=by
 obtain⟨c,a,e⟩:=Mj hp;rw[e];exact Yk (λb=>by rw[b]at a;exact absurd a DQ) hp
theorem Sh(hp:Jd p=p)(hq:Jd q=q):JZ (YV p) (YV q)=JZ p q:=by
 obtain⟨c,b,e⟩:=Mj hp;obtain⟨d,f,g⟩:=Mj hq;rw[e,g];exact Mf (λa=>by rw[a]at b;exact absurd b DQ) (λa=>by rw[a]at f;exact absurd f DQ) hp hq
section
variable {K:Nat} {p q a b:List Rat}
theorem Chn.ln_rem(hp:Jd p=p)(hq:Jd q=q)(d:Ln K p)(e:Ln K q)(hl:p.length+q.length<=1000000)(h:Eu (YV p) (YV q) a b)(f:b≠[]):Ln (De K p q) (J2 a b):=by
 have c:=SR (KU p) (KU q) (LG hp d).ln (LG hq e).ln (by rw[XQ hp,XQ hq];exact hl) h f;rw[XQ hp,XQ hq]at c;exact c.mono (Sg _ _ _)
theorem Chn.start(hp:Jd p=p)(hq:Jd q=q)(a:Ln K p)(b:Ln K q)(hl:p.length+q.length<=1000000):Chn p q (De K p q) (YV p) (YV q) where
 ta:=KU p
 tb:=KU q
 wa:=(LG hp a).mono (by have:=Hd K p q;omega)
 wb:=(LG hq b).mono (by have:=Hd K p q;omega)
 gc:=Sh hp hq
 la:=by rw[XQ hp];exact Nat.le_max_left _ _
 lb:=by rw[XQ hq];exact Aa _
 nx:=Chn.ln_rem hp hq a b hl (.base _ _)
 eu:=.base _ _
theorem Chn.next(hp:Jd p=p)(hq:Jd q=q)(i:Ln K p)(j:Ln K q)(hl:p.length+q.length<=1000000)(h:Chn p q (De K p q) a b)(d:b≠[]):Chn p q (De K p q) b (Ep a b):=by
 obtain⟨c,g,e,_⟩:=Oh (p:=a) h.tb d;have f:Eu (YV p) (YV q) b (Ep a b):=by rw[e];exact h.eu.tail d g
 have l:(Ep a b).length<b.length:=by
  rw[e,Yk g (YR _ _)];exact(YF a b h.tb d).2.1
 have k:=h.lb;exact⟨h.tb,Mk _ _,h.wb,(Sf h.tb d (h.nx d)).2,by rw[<-f.gcd (KU p) (KU q)];exact Sh hp hq,Y,Y,Chn.ln_rem hp hq i j hl f,f⟩
end
variable{p:List Rat}{A:Nat}
theorem Ml{a b:List Rat}(f:Jd b=b)(d:b≠[]):(Ep a b).length<b.length:=by
 obtain⟨c,g,e,_⟩:=Oh (p:=a) f d;rw[e,Yk g (YR _ _)];exact(YF a b f d).2.1
structure Rhn(p q:List Rat)(A:Nat)(a b:List Rat):Prop where
 ta:Jd a=a
 tb:Jd b=b
 ca:∃D:Int,D≠0/\Sm A D/\EJ D A a
 cb:∃E:Int,E≠0/\Sm A E/\EJ E A b
 mb:b≠[]->cf b (b.length-1)=1
 ma:JF a=a
 gc:JZ a b=JZ p q
 la:a.length<=max p.length q.length
 lb:b.length<=q.length
 nx:b≠[]->Ln A (J2 a b)
 eu:Eu (JF p) (JF q) a b
theorem Si(a:1<=A):∃D:Int,D≠0/\Sm A D/\EJ D A []:=⟨1,DQ,Sm.one A a,λi=>by rw[YS];exact CD.zero _ _⟩
theorem LH(hp:Jd p=p)(h:Ln A p)(b:1<=A):∃E:Int,E≠0/\Sm A E/\EJ E A (JF p):=by
 by_cases a:p=[]
 . subst a;exact Si b
 . exact Se hp a h
theorem Sj{K:Nat}(hp:Jd p=p)(h:Ln K p):Ln K (JF p):=by
 by_cases a:p=[]
 . subst a;exact h
 . exact h.sc (Hy (JB hp a))
theorem Sk(hp:Jd p=p)(h:JF p≠[]):cf (JF p) ((JF p).length-1)=1:=SU hp (λe=>h (by rw[e];rfl))
section
variable {K:Nat} {p q a b:List Rat}
theorem Rhn.ln_rem(hp:Jd p=p)(hq:Jd q=q)(d:Ln K p)(e:Ln K q)(hl:p.length+q.length<=1000000)(h:Eu (JF p) (JF q) a b)(f:b≠[]):Ln (De K p q) (J2 a b):=by
 have c:=SR (Y1 p) (Y1 q) (Sj hp d) (Sj hq e) (by rw[Yo hp,Yo hq];exact hl) h f;rw[Yo hp,Yo hq]at c;exact c.mono (Sg _ _ _)
theorem Rhn.start(hp:Jd p=p)(hq:Jd q=q)(a:Ln K p)(b:Ln K q)(hl:p.length+q.length<=1000000):Rhn p q (De K p q) (JF p) (JF q) where
 ta:=Y1 p
 tb:=Y1 q
 ca:=LH hp (a.mono (by have:=Hd K p q;omega)) (by have:=Hd K p q;omega)
 cb:=LH hq (b.mono (by have:=Hd K p q;omega)) (by have:=Hd K p q;omega)
 mb:=Sk hq
 ma:=Me hp
 gc:=SV p q hp hq
 la:=by rw[Yo hp];exact Nat.le_max_left _ _
 lb:=by rw[Yo hq];exact Aa _
 nx:=Rhn.ln_rem hp hq a b hl (.base _ _)
 eu:=.base _ _
theorem Rhn.next(hp:Jd p=p)(hq:Jd q=q)(i:Ln K p)(j:Ln K q)(hl:p.length+q.length<=1000000)(h:Rhn p q (De K p q) a b)(d:b≠[]):Rhn p q (De K p q) b (JF (J2 a b)):=by
 have e:=YR a b;have f:Eu (JF p) (JF q) b (JF (J2 a b)):=by
  by_cases g:J2 a b=[]
  . have:=h.eu.tail (c:=1) d DQ;rw[g]at this ⊢;exact this
  . exact h.eu.tail d (Hy (JB e g))
 have l:(JF (J2 a b)).length<b.length:=by
  rw[Yo e];exact(YF a b h.tb d).2.1
 have k:=h.lb;refine⟨h.tb,Y1 _,h.cb,LH e (h.nx d) (by have:=Hd K p q;omega),Sk e,?_,by rw[<-f.gcd (Y1 p) (Y1 q)];exact SV p q hp hq,Y,Y,Rhn.ln_rem hp hq i j hl f,f⟩;unfold JF;rw[h.mb d,show(1:Rat)/1=1 by grind];exact LD h.tb
end
end
section
open Go.RowKit Go.Shelf
theorem Sl(q:Rat):Hr q 0<0↔q<0:=by
 rw[Rat.lt_iff];unfold Hr Ef;split<;>(try split)<;>omega
theorem eB(a b:Nat):(a:Int)*((b:Int)/((Int.gcd a b:Nat):Int))=((Nat.lcm a b:Nat):Int):=by
 show(a:Int)*((b:Int)/((Nat.gcd a b:Nat):Int))=_;rw[<-Fp,<-Fa];congr 1;rw[Nat.lcm,Nat.mul_div_assoc _ (Ff a b)]
theorem KV(ps:List Rat)(i:Nat):(if((i:Nat):Int)<0 then(0:Rat)else cf ps ((i:Nat):Int).toNat)=cf ps i:=by
 rw[BC Y,Cy]
theorem eC(A:Nat)(b c:I)(ps qs:List Rat)(w:H)(g:Jg w b ps)(j:Jg w c qs)(hs:DZ ps)(hq:∀i,Dd A (cf qs i))(l:Jd ps=ps)(m:Jd qs=qs)(a:qs≠[])
(f:∀k,k<=ps.length-(qs.length-1)->∃z,z+(2*A+1)<=1000000/\(k<ps.length-(qs.length-1)->2*z+2*(2*A+1)<=1000000)/\(∀i,Dd z (cf (JE ps qs (qs.length-1) (ps.length-(qs.length-1)) k).2 i))/\∀i,Dd (z+A) (cf (JE ps qs (qs.length-1) (ps.length-(qs.length-1)) k).1 i)):
 Calls Tryz.prog 22 #[b,c] w λe d=>∃u v,e=.returned (.tuple #[u,v,E true])/\Jg d u (YE ps qs)/\Jg d v (J2 ps qs)/\Bl w d:=by
 have h:=M3.SF A b c ps qs w g j hs hq l m λ_=>f;rw[BK a,BC a,BC a]at h;exact h
end
namespace M3
open Go.RowKit Go.Shelf
variable{S:List Rat}{c i l n:Nat}{a:Option Addr}{v:I}{V:H}
theorem Sn(n:Nat)(h:n<=2199023255552)(w:H):(Instr.makeSlice 22 (B .i64 (n:Int)) (B .i64 (n:Int))).run Tryz.prog w=.ok (C (some ⟨w.heap.size,0,none⟩) n n) (w.alloc (G (Ye n) 65)):=by
 obtain⟨i,d,b⟩:=FD.1 Tryz.infoRat;simp only[Prod.mk.injEq]at b;obtain⟨e,hs,c⟩:=b;have a:=run_make (P:=Tryz.prog) w 22 65 i _ Tryz.underlying22 d e .i64 .i64 n n Y (Int.le_refl _) (by rw[c];omega) Y;simp only[Cy,hs]at a;exact a
theorem He(V:H):Has V (.agg #[C Option.none 0 0]) (.poly []):=⟨_,rfl,row_zero V Option.none⟩
theorem So(V:H):Jg V (.agg #[C Option.none 0 0]) []:=⟨_,rfl,row_zero V Option.none⟩
theorem Mem.poly2{w:H}{bs:List (Option (Nat × Dat))}(M:Mem w V bs){B:Nat}{ps:List Rat}(h:bs[i]?=some (some (B,.poly ps))):∃a l c,Boxed V B 25 (C a l c)/\Jg V (.agg #[C a l c]) ps:=by
 obtain⟨a,l,c,b,d⟩:=M.poly h;exact⟨a,l,c,b,_,rfl,d⟩
theorem LI{W:H}{B:Nat}(b:Boxed W B 25 (C a l c)){x:I}{qs:List Rat}(h:Jg W v qs):Jg (W.setCell ⟨B,0,Option.none⟩ x) v qs:=by
 obtain⟨u,e,h⟩:=h;exact⟨u,e,FX b x h⟩
theorem Has.set1{d:Dat}(h:Has V v d){B:Nat}(q:Boxed V B 25 (C a l c))(n0:JA (C a l c)=true)(b:I):Has (V.setCell ⟨B,0,Option.none⟩ b) v d:=
 h.keep (QQ q n0 b) (Or.inr λ_ _ g=>FX q b g)
theorem Tup2.set1{V:H}{v:I}{d1 d:Dat}(h:Tup2 V v d1 d){B:Nat}{a:Option Addr}{l c:Nat}(q:Boxed V B 25 (C a l c))(n0:JA (C a l c)=true)(b:I):Tup2 (V.setCell ⟨B,0,Option.none⟩ b) v d1 d:=by
 obtain⟨u1,u2,e,f,g⟩:=h;exact⟨u1,u2,e,f.set1 q n0 b,g.set1 q n0 b⟩
attribute [local go_sem] Oper.semAt_some
theorem eD(va:I)(q:Rat)(w:H)(Q:Jk w va q)(ah:Sq q):
 Calls Tryz.prog 129 #[va] w λe w'=>∃u,e=.returned u/\Jk w' u (Yu q)/\Bl w w':=by
 obtain⟨ak,W,aj,ad,am,X,ai,ae,rfl⟩:=Jk.form Q;have g:=(((Mem.nil w).push (.rat q) Q).push (.rat 0) (El _));simp only[A1]at g;have g:Mem w ((w.alloc (G #[E ak,C W aj ad,E am,C X ai ae] 65)).alloc (G #[E false,C none 0 0,E false,C none 0 0] 65)) [some (w.heap.size,.rat q),some (w.heap.size+1,.rat 0)]:=g;obtain⟨W0,P⟩:=ex ((w.alloc (G #[E ak,C W aj ad,E am,C X ai ae] 65)).alloc (G #[E false,C none 0 0,E false,C none 0 0] 65));have U:=J P;rw[P]at g;have j:Hid (Mem w W0 [some (w.heap.size,.rat q),some (w.heap.size+1,.rat 0)]):=J g;have T:=J ah;clear g P Q ah;go_enter Tryz.func129,Tryz.ntmps129
 go_upto_region 1 with fail
 rw[U.o];clear U;obtain⟨s1,a1,l1,c1,t1,b1,k1,d1,z,A,i1,j1⟩:=j.o.rat (i:=0) rfl;obtain⟨t,k,o,s⟩:=z.cq;obtain⟨s2,a2,l2,c2,t2,b2,k2,d2,a,r2,i2,j2⟩:=j.o.rat (i:=1) rfl;obtain⟨b,c,f,d⟩:=a.cq;obtain⟨m,l,r,p⟩:=a.fq;obtain⟨x,D,HR⟩:=Dk (Q6 _ _ q 0 W0 A (El _) T.o Ip) (λ(V:H) (h:Bl W0 V)=>K0 _ _ 0 q V (El _) (A.below h) Ip T.o) A;obtain⟨n,R⟩:=ex (Hr q 0);rw[R]at x;have S:=J R;clear R A i1 j1;by_cases af:n<0
 . have K:=J (show 0-q=Yu q by
    have N:=(Sl q).1 (by rw[S.o];exact af);unfold Yu;rw[BG N];grind)
   rw[K.o]at D;go_wp2_with(first
    |(go_at_call 68;refine x.o.mono ?_;clear x;rintro e w1 ⟨rfl,hq⟩;clear t k o s;obtain⟨t,k,o,s⟩:=(z.below hq).cq;clear b c f d;obtain⟨b,c,f,d⟩:=(a.below hq).cq;clear m l r p;obtain⟨m,l,r,p⟩:=(a.below hq).fq)
    |(go_at_call 51;refine(D.o _ hq).mono ?_;clear D;rintro e w2 ⟨u2,rfl,y,ay⟩;obtain⟨bf,an,bc,aq,bg,ap,az,aw,rfl⟩:=Jk.form y;have hq:=Bt hq ay;clear t k o s;obtain⟨t,k,o,s⟩:=(z.below hq).cq;clear b c f d;obtain⟨b,c,f,d⟩:=(a.below hq).cq;clear m l r p;obtain⟨m,l,r,p⟩:=(a.below hq).fq))
   have M:=Bt j.o.2.2 hq;have L:=j.o.ge 1 rfl;exact BA (v:=.agg #[E bf,C an bc aq,E bg,C ap az aw]) (by simp[results,Tryz.results129,go_sem,b,c,f,d]) rfl ⟨_,rfl,y.put4 (a.below hq) rfl rfl rfl rfl _ _ _ _,Jt M L _ _ _ _⟩
 . have K:=J (show Yu q=q by
    have N:¬q<0:=λh=>af (by rw[<-S.o];exact(Sl q).2 h);unfold Yu;rw[BC N])
   go_wp2_with(go_at_call 68;refine x.o.mono ?_;clear x;rintro e w1 ⟨rfl,hq⟩;clear t k o s;obtain⟨t,k,o,s⟩:=(z.below hq).cq;clear b c f d;obtain⟨b,c,f,d⟩:=(a.below hq).cq;clear m l r p;obtain⟨m,l,r,p⟩:=(a.below hq).fq)
   have y:=HR.o.below hq;rw[<-K.o]at y;have M:=Bt j.o.2.2 hq;have L:=j.o.ge 1 rfl;exact BA (v:=.agg #[E s1,C a1 l1 c1,E t1,C b1 k1 d1]) (by simp[results,Tryz.results129,go_sem,b,c,f,d]) rfl ⟨_,rfl,y.put4 (a.below hq) rfl rfl rfl rfl _ _ _ _,Jt M L _ _ _ _⟩
theorem eE(va vb:I)(x y:Nat)(w:H)(ha:Jm w va (x:Int))(hb:Jm w vb (y:Int))(hx:0<x)(bc:DY (x:Int))(bf:DY (y:Int)):
 Calls Tryz.prog 97 #[va,vb] w λe w'=>∃u,e=.returned u/\Jm w' u ((Nat.lcm x y:Nat):Int)/\Bl w w':=by
 have Qj:Tryz.prog.follows .mixedOrders=true:=by kernel_rfl
 have HG:=J (show((Int.gcd x y:Nat):Int)≠0 by have:=Nat.gcd_pos_of_pos_left y hx;exact Int.natCast_ne_zero.2 (by show Nat.gcd x y≠0;omega));obtain⟨aw,af,ap,aj,rfl⟩:=Jm.form2 ha;obtain⟨ay,ah,aq,ak,rfl⟩:=Jm.form2 hb;have P:=((((Mem.nil w).push (.int ((x:Int))) ha).push (.int ((y:Int))) (Has.alloc (d:=.int ((y:Int))) hb _)).push (.int 0) (EQ _));simp only[A1]at P;have P:Mem w (((w.alloc (G #[E aw,C af ap aj] 63)).alloc (G #[E ay,C ah aq ak] 63)).alloc (G #[E false,C none 0 0] 63)) [some (w.heap.size,.int ((x:Int))),some (w.heap.size+1,.int ((y:Int))),some (w.heap.size+1+1,.int 0)]:=P;obtain⟨W0,am⟩:=ex (((w.alloc (G #[E aw,C af ap aj] 63)).alloc (G #[E ay,C ah aq ak] 63)).alloc (G #[E false,C none 0 0] 63));have Qg:=J am;rw[am]at P;have M1:Hid (Mem w W0 [some (w.heap.size,.int ((x:Int))),some (w.heap.size+1,.int ((y:Int))),some (w.heap.size+1+1,.int 0)]):=J P;have Qc:=J bc;have Qa:=J bf;clear P am ha hb bc bf;go_enter Tryz.func97,Tryz.ntmps97
 go_upto_region 1 with fail
 rw[Qg.o];clear Qg;clear hx;refine Jl Qj [[],[],[],[1,2],[0,3,3],[4],[5],[5],[5],[],[],[9,6,4,0,1,2,3,4,5,6,9,10],[10,7,11,0,1,2,3,4,5,6,7,9,10,11],[8,12,0,1,2,3,4,5,6,7,8,9,10,11,12]] (by kernel_rfl) DQ
  (λD ai V=>∃(tm ta tb tc td tl te tf tg ti tj tk:I) (S R:Option (Nat × Dat)),ai={ tmps:=#[.agg #[E aw,C af ap aj],.agg #[E ay,C ah aq ak],F (some ⟨w.heap.size,0,none⟩),F (some ⟨w.heap.size+1,0,none⟩),F (some ⟨w.heap.size+1+1,0,none⟩),ti,tj,tk,tl,tm,ta,tb,tc,td,te,tf,tg,undef,undef,undef],defers:=[] }/\Hid ((D 0=true->Has V tm (.int ((y:Int))))/\(D 1=true->Has V ta (.int ((x:Int))))/\(D 2=true->Has V tb (.int ((y:Int))))/\(D 3=true->Has V tc (.int (((Int.gcd x y:Nat):Int))))/\(D 4=true->Tup2 V td (.int ((y:Int)/((Int.gcd x y:Nat):Int))) (.int ((y:Int)%((Int.gcd x y:Nat):Int))))/\(D 5=true->Tup2 V tl (.int ((y:Int)/((Int.gcd x y:Nat):Int))) (.int ((y:Int)%((Int.gcd x y:Nat):Int))))/\(D 6=true->Has V te (.int ((y:Int)/((Int.gcd x y:Nat):Int))))/\(D 7=true->Has V tf (.int ((y:Int)%((Int.gcd x y:Nat):Int))))/\(D 8=true->tg=E true)/\((D 9=false->S=none)/\(D 9=true->D 11=false->∃B:Nat,ti=F (some ⟨B,0,none⟩)/\S=some (B,.int 0))/\(D 11=true->∃B:Nat,ti=F (some ⟨B,0,none⟩)/\S=some (B,.int ((y:Int)/((Int.gcd x y:Nat):Int)))))/\((D 10=false->R=none)/\(D 10=true->D 12=false->∃B:Nat,tj=F (some ⟨B,0,none⟩)/\R=some (B,.int 0))/\(D 12=true->∃B:Nat,tj=F (some ⟨B,0,none⟩)/\R=some (B,.int ((y:Int)%((Int.gcd x y:Nat):Int)))))/\(D 13=true->tk=E true))/\Hid (Mem w V [some (w.heap.size,.int ((x:Int))),some (w.heap.size+1,.int ((y:Int))),some (w.heap.size+1+1,.int 0),S,R]))
  ⟨_,_,_,_,_,_,_,_,_,_,_,_,none,none,rfl,J ⟨O,O,O,O,O,O,O,O,O,O,O,O⟩,J (((M1.o).none).none).drew⟩ ?step1 ?fin1
 case step1=>
  rintro D ai V i ds az hi f Q ⟨tm,ta,tb,tc,td,tl,te,tf,tg,ti,tj,tk,S,R,rfl,b,g⟩;have cg:i<14:=(Ac.1 hi).1;obtain rfl|rfl|rfl|rfl|rfl|rfl|rfl|rfl|rfl|rfl|rfl|rfl|rfl|rfl:=F0 i Y
  all_goals
   simp only[Af,Ae,Ag]at hi;subst hi
  . clear f;obtain⟨s,a,l,c,n,i⟩:=g.o.int (i:=1) rfl;obtain⟨e0,e1⟩:=n.cp;refine Za ?_;exact⟨_,_,_,_,_,_,_,_,_,_,_,_,_,_,rfl,(Dg b λ_=>i),J (g.o)⟩
  . clear f;obtain⟨s,a,l,c,n,i⟩:=g.o.int (i:=0) rfl;obtain⟨e0,e1⟩:=n.cp;refine Za ?_;exact⟨_,_,_,_,_,_,_,_,_,_,_,_,_,_,rfl,(Do b λ_=>i),J (g.o)⟩
  . clear f;obtain⟨s,a,l,c,n,i⟩:=g.o.int (i:=1) rfl;obtain⟨e0,e1⟩:=n.cp;refine Za ?_;exact⟨_,_,_,_,_,_,_,_,_,_,_,_,_,_,rfl,(Df b λ_=>i),J (g.o)⟩
  . have N:=(b.o.2.1 (f 1 O));have A:=(b.o.2.2.1 (f 2 O));have HC:=J (Io _ _ (x:Int) (y:Int) V N A (by have:=Qc.o.words;omega) (by have:=Qa.o.words;omega));clear f N A;refine Jb rfl rfl λK hK=>?_;go_simp;go_wp2_with(go_at_call 90;refine HC.o.mono ?_;rintro e w5 ⟨v5,rfl,an,j⟩)
    obtain⟨k,m,o,_,M,q,r,t,z⟩:=b.o;exact⟨_,_,_,_,_,_,_,_,_,_,_,_,_,_,rfl,J ⟨λh=>(k h).below j,λh=>(m h).below j,λh=>(o h).below j,λ_=>an,λh=>(M h).below j,λh=>(q h).below j,λh=>(r h).below j,λh=>(t h).below j,z⟩,J (g.o.below j)⟩
  . have N:=(b.o.1 (f 0 O));have A:=(b.o.2.2.2.1 (f 3 O));have HC:=J (QY _ _ (y:Int) ((Int.gcd x y:Nat):Int) V N A HG.o (by have:=Qa.o.words;omega) (by have:=(Qc.o.gcd Qa.o).words;omega));clear f N A;refine Jb rfl rfl λK hK=>?_;go_simp;go_wp2_with(go_at_call 123;refine HC.o.mono ?_;rintro e w5 ⟨v5,v6,rfl,an,bj,j⟩)
    obtain⟨k,m,o,L,_,q,r,t,z⟩:=b.o;exact⟨_,_,_,_,_,_,_,_,_,_,_,_,_,_,rfl,J ⟨λh=>(k h).below j,λh=>(m h).below j,λh=>(o h).below j,λh=>(L h).below j,λ_=>⟨v5,v6,rfl,an,bj⟩,λh=>(q h).below j,λh=>(r h).below j,λh=>(t h).below j,z⟩,J (g.o.below j)⟩
  . have N:=(b.o.2.2.2.2.1 (f 4 O));clear f;refine Za ?_;exact⟨_,_,_,_,_,_,_,_,_,_,_,_,_,_,rfl,(D0 b λ_=>N),J (g.o)⟩
  . obtain⟨y1,y2,rfl,A,h2⟩:=((Dp b) (f 5 O));clear f;refine Za ?_;exact⟨_,_,_,_,_,_,_,_,_,_,_,_,_,_,rfl,(Dx b λ_=>A),J (g.o)⟩
  . obtain⟨y1,y2,rfl,A,h2⟩:=((Dp b) (f 5 O));clear f;refine Za ?_;exact⟨_,_,_,_,_,_,_,_,_,_,_,_,_,_,rfl,(ED b λ_=>h2),J (g.o)⟩
  . obtain⟨y1,y2,rfl,A,h2⟩:=((Dp b) (f 5 O));clear f;refine Za ?_;exact⟨_,_,_,_,_,_,_,_,_,_,_,_,_,_,rfl,(EK b),J (g.o)⟩
  . have hf:D 11=false:=DR az Q;obtain rfl:=b.o.2.2.2.2.2.2.2.2.2.1.1 Q;clear f;refine Za ?_;obtain⟨k,m,o,L,M,q,r,t,z,_,ad⟩:=b.o;exact⟨_,_,_,_,_,_,_,_,_,_,_,_,_,_,rfl,J ⟨λh=>(k h).alloc _,λh=>(m h).alloc _,λh=>(o h).alloc _,λh=>(L h).alloc _,λh=>(M h).alloc _,λh=>(q h).alloc _,λh=>(r h).alloc _,λh=>(t h).alloc _,z,⟨λh=>by simp at h,λ_ _=>⟨_,rfl,rfl⟩,λh=>by simp[hf]at h⟩,ad⟩,J (g.o.fill (i:=3) rfl (.int 0) (EQ _))⟩
  . have hf:D 12=false:=DR az Q;obtain rfl:=b.o.2.2.2.2.2.2.2.2.2.2.1.1 Q;clear f;refine Za ?_;obtain⟨k,m,o,L,M,q,r,t,z,G9,_,ae⟩:=b.o;exact⟨_,_,_,_,_,_,_,_,_,_,_,_,_,_,rfl,J ⟨λh=>(k h).alloc _,λh=>(m h).alloc _,λh=>(o h).alloc _,λh=>(L h).alloc _,λh=>(M h).alloc _,λh=>(q h).alloc _,λh=>(r h).alloc _,λh=>(t h).alloc _,z,G9,⟨λh=>by simp at h,λ_ _=>⟨_,rfl,rfl⟩,λh=>by simp[hf]at h⟩,ae⟩,J (g.o.fill (i:=4) rfl (.int 0) (EQ _))⟩
  . obtain⟨B,rfl,rfl⟩:=b.o.2.2.2.2.2.2.2.2.2.1.2.1 (f 9 O) Q;have Qb:=f 9 O;have W:=((Ds b) (f 6 O));obtain⟨s1,a1,l1,c1,rfl⟩:=Jm.form2 (show Jm V _ _ from W);obtain⟨s,a,l,c,n,i⟩:=g.o.int (i:=3) rfl;have e0:=n.c0;have f0:=n.f0;have e1:=n.c1;have f1:=n.f1;clear f;refine Za ?_;obtain⟨k,m,o,L,M,q,r,t,z,_,ad⟩:=b.o;exact⟨_,_,_,_,_,_,_,_,_,_,_,_,_,_,rfl,J ⟨λh=>(k h).set2 n rfl rfl _ _,λh=>(m h).set2 n rfl rfl _ _,λh=>(o h).set2 n rfl rfl _ _,λh=>(L h).set2 n rfl rfl _ _,λh=>(M h).set2 n rfl rfl _ _,λh=>(q h).set2 n rfl rfl _ _,λh=>(r h).set2 n rfl rfl _ _,λh=>(t h).set2 n rfl rfl _ _,z,⟨λh=>by simp[Qb]at h,λ_ h=>by simp at h,λ_=>⟨B,rfl,rfl⟩⟩,ad⟩,J (g.o.putInt (i:=3) rfl W)⟩
  . obtain⟨B,rfl,rfl⟩:=b.o.2.2.2.2.2.2.2.2.2.2.1.2.1 (f 10 O) Q;have Qb:=f 10 O;have W:=((Du b) (f 7 O));obtain⟨s1,a1,l1,c1,rfl⟩:=Jm.form2 (show Jm V _ _ from W);obtain⟨s,a,l,c,n,i⟩:=g.o.int (i:=4) rfl;have e0:=n.c0;have f0:=n.f0;have e1:=n.c1;have f1:=n.f1;clear f;refine Za ?_;obtain⟨k,m,o,L,M,q,r,t,z,G9,_,ae⟩:=b.o;exact⟨_,_,_,_,_,_,_,_,_,_,_,_,_,_,rfl,J ⟨λh=>(k h).set2 n rfl rfl _ _,λh=>(m h).set2 n rfl rfl _ _,λh=>(o h).set2 n rfl rfl _ _,λh=>(L h).set2 n rfl rfl _ _,λh=>(M h).set2 n rfl rfl _ _,λh=>(q h).set2 n rfl rfl _ _,λh=>(r h).set2 n rfl rfl _ _,λh=>(t h).set2 n rfl rfl _ _,z,G9,⟨λh=>by simp[Qb]at h,λ_ h=>by simp at h,λ_=>⟨B,rfl,rfl⟩⟩,ae⟩,J (g.o.putInt (i:=4) rfl W)⟩
  . obtain rfl:=((D6 b) (f 8 O));clear f;refine Za ?_;exact⟨_,_,_,_,_,_,_,_,_,_,_,_,_,_,rfl,(Ib (EK b)),J (g.o)⟩
 rintro D ai V2 U ⟨tm,ta,tb,tc,td,tl,te,tf,tg,ti,tj,tk,S,R,rfl,b,g⟩;obtain⟨B3,rfl,rfl⟩:=b.o.2.2.2.2.2.2.2.2.2.1.2.2 (U 11 DQ);obtain⟨B4,rfl,rfl⟩:=b.o.2.2.2.2.2.2.2.2.2.2.1.2.2 (U 12 DQ);obtain rfl:=D6 b (U 8 DQ);obtain rfl:=b.o.2.2.2.2.2.2.2.2.2.2.2 (U 13 DQ);clear b U M1;have T:Hid (Mem w V2 [some (w.heap.size,.int ((x:Int))),some (w.heap.size+1,.int ((y:Int))),some (w.heap.size+1+1,.int 0),some (B3,.int ((y:Int)/((Int.gcd x y:Nat):Int))),some (B4,.int ((y:Int)%((Int.gcd x y:Nat):Int)))]):=g;clear g;obtain⟨s5,a5,l5,c5,n5,i5⟩:=T.o.int (i:=0) rfl;obtain⟨bn,bt⟩:=n5.cp;obtain⟨s6,a6,l6,c6,n6,i6⟩:=T.o.int (i:=3) rfl;obtain⟨bu,ce⟩:=n6.cp;obtain⟨s7,a7,l7,c7,X,i7⟩:=T.o.int (i:=2) rfl;obtain⟨Qe,Qd⟩:=X.cp;obtain⟨Qi,Qh⟩:=X.fp;have H1:=J (Xl _ _ (x:Int) ((y:Int)/((Int.gcd x y:Nat):Int)) V2 i5 i6 (by have A:=Qc.o.words;have h2:=(Qa.o.div (y:=((Int.gcd x y:Nat):Int))).words;omega));rw[eB]at H1;go_wp2_with(go_at_call 85;refine H1.o.mono ?_;clear H1;rintro e w2 ⟨u2,rfl,bg,hq⟩;obtain⟨bm,bh,bk,bi,rfl⟩:=Jm.form2 bg;clear Qe Qd;obtain⟨Qe,Qd⟩:=(X.below hq).cp;clear Qi Qh;obtain⟨Qi,Qh⟩:=(X.below hq).fp)
 have Qk:=Bt T.o.2.2 hq;have Qf:=T.o.ge 2 rfl;exact BA (v:=.agg #[E bm,C bh bk bi]) (by simp[results,Tryz.results97,go_sem,Qe,Qd]) rfl ⟨_,rfl,bg.box (X.below hq) rfl rfl,(Qk.setCell (p:=⟨_,0,none⟩) Qf _).setCell (p:=⟨_,1,none⟩) Qf _⟩
def Ix(F:Nat->Rat)(n i:Nat)(S:List Rat):Prop:=S.length=n/\∀j,cf S j=if j<i then F j else 0
theorem Ix.next{F:Nat->Rat}(h:Ix F n i S)(b:i<n):Ix F n (i+1) (S.set i (F i)):=by
 refine⟨by rw[Cr];exact h.1,λj=>?_⟩;rw[XC _ _ _ _ (by rw[h.1];exact b),h.2 j];by_cases e:j=i
 . rw[BG e,BG Y,e]
 . rw[BC e];by_cases a:j<i
   . rw[BG a,BG Y]
   . rw[BC a,BC Y]
theorem Ix.done{F:Nat->Rat}{T:List Rat}(h:Ix F n n S)(b:Jd T=T)(hF:∀j,j<n->cf T j=F j)(a:∀j,n<=j->cf T j=0):Jd S=T:=by
 rw[<-b];refine YB λj=>?_;rw[h.2 j];split
 . exact(hF j (by assumption)).symm
 . exact(a j Y).symm
theorem Sp(v vf:I)(ps:List Rat)(f:Rat)(w:H)(h:Jg w v ps)(hf:Jk w vf f)(aq:DZ ps)(aw:Sq f)(ay:∀i,Sq (cf ps i*f)):
 Calls Tryz.prog 98 #[v,vf] w λe w'=>∃u,e=.returned u/\Jg w' u (Dn f ps)/\Bl w w':=by
 have Qq:Tryz.prog.follows .mixedOrders=true:=by kernel_rfl
 obtain⟨x,la,y,rfl⟩:=h.form;obtain⟨s,a,l,c,t,b,k,d,rfl⟩:=Jk.form hf;obtain⟨bf,az,bc,bg,_⟩:=h.row.forms;have M0:=((((Mem.nil w).push (.cell 25 (C x la y)) (cs:=#[C x la y]) ⟨rfl,rfl⟩).push (.rat f) (cs:=#[E s,C a l c,E t,C b k d]) (Has.alloc (d:=.rat f) hf _)).push (.cell 25 (C none 0 0)) (cs:=#[C none 0 0]) ⟨rfl,rfl⟩);simp only[A1]at M0;obtain⟨V0,ae⟩:=ex (((w.alloc (G #[C x la y] 25)).alloc (G #[E s,C a l c,E t,C b k d] 65)).alloc (G #[C none 0 0] 25));have M1:Mem w V0 [some (w.heap.size,.cell 25 (C x la y)),some (w.heap.size+1,.rat f),some (w.heap.size+1+1,.cell 25 (C none 0 0))]:=by rw[<-ae];exact M0
 have Qh:=J M1;obtain⟨n,hn⟩:=ex (ps.length:Nat);obtain⟨P,an⟩:=ex ((n:Int)-1:Int);have Qg:=J (YA (.agg #[C x la y]) ps V0 (h.below M1.2.2));rw[hn,an]at Qg;have bh:P+1=(n:Int):=Y
 have bi:IntKind.i64.wrap (n:Int)=(n:Int):=by rw[BS];omega
 have Qr:∀W:H,(Instr.makeSlice 22 (B .i64 (n:Int)) (B .i64 (n:Int))).run Tryz.prog W=.ok (C (some ⟨W.heap.size,0,none⟩) n n) (W.alloc (G (Ye n) 65)):=λW=>Sn n Y W;obtain⟨HP,Ql,Qm,HN⟩:=EB (λ(V:H) (hB:Bl w V)=>h.below hB) aq ay (show ps.length=n from hn);have Qd:n<=1099511627776:=Y
 have Qj:=J ae;have Qo:=J aw;clear h aq ay bf az bc hn an M0 M1 ae bg hf aw;go_enter Tryz.func98,Tryz.ntmps98
 go_upto_region 1 with fail
 rw[Qj.o];have c0:=(Qh.o.cell (i:=0) rfl).1.cell;go_upto_region 2 with(go_at_call 20;refine Qg.o.mono ?_;clear Qg;rintro e w1 ⟨rfl,am⟩)
 have Qe:Mem w (w1.alloc (G (Ye n) 65)) [some (w.heap.size,.cell 25 (C x la y)),some (w.heap.size+1,.rat f),some (w.heap.size+1+1,.cell 25 (C none 0 0)),some (w1.heap.size,.rats (List.replicate n 0))]:=(Qh.o.below am).push (.rats (List.replicate n 0)) (LB _ n);obtain⟨V1,af⟩:=ex (w1.alloc (G (Ye n) 65));obtain⟨A,ah⟩:=ex (w1.heap.size);rw[af,ah]at Qe;rw[af,ah];have Qi:=J Qe;clear Qe af ah am c0 Qh Qj Qr;go_wp2;go_loopw [13] (λiv wr=>∃(i:Nat) (S:List Rat),i<=n/\iv=B .i64 (i:Int)/\Hid (Ix (λj=>cf ps j*f) n i S)/\Hid (Mem w wr [some (w.heap.size,.cell 25 (C x la y)),some (w.heap.size+1,.rat f),some (w.heap.size+1+1,.cell 25 (C none 0 0)),some (A,.rats S)])) λiv _=>n-(intOf iv).toNat
 case atStart=>exact⟨0,_,AK _,rfl,J ⟨Au,λj=>by rw[JO,BC Y]⟩,Qi⟩
 case round=>
  obtain⟨i,S,hi,rfl,M,U⟩:=hrel;clear Qi;by_cases ap:i<n
  . have bk:(i:Int)<(n:Int):=Y
    have Qk:=J (show i<S.length by rw[M.o.1];exact ap);go_wp2_with fail
    have Qn:=U.o.drew;refine Jl Qq [[],[],[],[],[2,3],[],[4,5,4],[0,1,0,1,2,3,4,5,6],[7,6,6,0,1,2,3,4,5,6]] (by kernel_rfl) DQ
     (λD ad V=>∃(ta tb tc td te tf tg ti:I),ad={ tmps:=#[.agg #[C x la y],.agg #[E s,C a l c,E t,C b k d],F (some ⟨w.heap.size,0,none⟩),F (some ⟨w.heap.size+1,0,none⟩),F (some ⟨w.heap.size+1+1,0,none⟩),C (some ⟨A,0,none⟩) n n,B .i64 ↑i,.agg #[C x la y],B .i64 P,B .i64 ↑n,C (some ⟨A,0,none⟩) n n,C (some ⟨A,0,none⟩) n n,B .i64 ↑n,B .i64 ↑i,E true,B .i64 ↑i,ta,tb,tc,td,te,tf,tg,ti,u24,undef,undef],defers:=[] }/\Hid ((D 0=true->ta=C (some ⟨A,0,none⟩) n n)/\(D 1=true->tb=B .i64 (i:Int))/\(D 2=true->tc=.agg #[C x la y])/\(D 3=true->td=B .i64 (i:Int))/\(D 4=true->D 8=false->Jk V te (cf ps i))/\(D 5=true->D 8=false->Jk V tf f)/\(D 6=true->D 8=false->Jk V tg (cf ps i*f))/\(D 7=true->ti=F (some ⟨A,i*4,none⟩)))/\Hid ((D 8=false->Mem w V [some (w.heap.size,.cell 25 (C x la y)),some (w.heap.size+1,.rat f),some (w.heap.size+1+1,.cell 25 (C none 0 0)),some (A,.rats S)])/\(D 8=true->Mem w V [some (w.heap.size,.cell 25 (C x la y)),some (w.heap.size+1,.rat f),some (w.heap.size+1+1,.cell 25 (C none 0 0)),some (A,.rats (S.set i (cf ps i*f)))])))
     (E8 ⟨rfl,J O,J ⟨λ_=>Qn,O⟩⟩) ?step1 ?fin1
    case step1=>
     rintro D ad V i ds X hi o N ⟨ta,tb,tc,td,te,tf,tg,ti,rfl,g,m⟩;have bj:i<9:=(Ac.1 hi).1;obtain rfl|rfl|rfl|rfl|rfl|rfl|rfl|rfl|rfl:=TN i Y
     all_goals
      simp only[Af,Ae,Ag]at hi;subst hi
     . clear o;refine DT ?_;exact⟨(Dg g),m⟩
     . clear o;refine DT ?_;exact⟨(Do g),m⟩
     . have z:=m.o.1 (DR X N);have P:=(z.cell (i:=0) rfl).1.cell;clear o;refine DT ?_;exact⟨(Df g),m⟩
     . clear o;refine DT ?_;exact⟨(Dj g),m⟩
     . have z:=m.o.1 (DR X N);obtain rfl:=g.o.2.2.1 (o 2 O);obtain rfl:=g.o.2.2.2.1 (o 3 O);clear o;have R:=J (KD _ ps (i:Int) V (HP.o V z.2.2));rw[KV]at R;refine Jb rfl rfl λK hK=>?_;go_simp;go_wp2_with(go_at_call 58;refine R.o.mono ?_;rintro e w5 ⟨v5,rfl,aj,q⟩)
       obtain⟨G0,G1,_,_,_,G5,G6,G7⟩:=g.o;exact E8 ⟨rfl,J ⟨G0,G1,λ_=>rfl,λ_=>rfl,λ_ _=>aj,λh L=>(G5 h L).below q,λh L=>(G6 h L).below q,G7⟩,J ⟨λh=>(m.o.1 h).below q,λh=>(m.o.2 h).below q⟩⟩
     . have z:=m.o.1 (DR X N);obtain⟨x1,x2,x3,x4,x5,x6,x7,x8,n,r,_,_⟩:=z.rat (i:=1) rfl;obtain⟨P,e1,e2,e3⟩:=n.cq;clear o;refine DT ?_;exact⟨(D0 g λ_ _=>r),m⟩
     . have Qa:D 8=false:=DR X N;have Q:=g.o.2.2.2.2.1 (o 4 O) Qa;have h1:=Dp g (o 5 O) Qa;clear o;have R:=J (Kz _ _ (cf ps i) f V Q h1 (Ql.o.at i) Qo.o);clear Q h1;refine Jb rfl rfl λK hK=>?_;go_simp;go_wp2_with(go_at_call 52;refine R.o.mono ?_;rintro e w5 ⟨v5,rfl,aj,q⟩)
       obtain⟨G0,G1,G2,G3,G4,G5,_,G7⟩:=g.o;exact E8 ⟨rfl,J ⟨G0,G1,G2,G3,λh L=>(G4 h L).below q,λh L=>(G5 h L).below q,λ_ _=>aj,G7⟩,J ⟨λh=>(m.o.1 h).below q,λh=>(m.o.2 h).below q⟩⟩
     . obtain rfl:=g.o.1 (o 0 O);obtain rfl:=g.o.2.1 (o 1 O);clear o;refine DT ?_;exact⟨(Ls (Do (Dg g))),m⟩
     . have z:=m.o.1 N;have Q:=Ds g (o 6 O) N;obtain rfl:=g.o.2.2.2.2.2.2.2 (o 7 O);have hE:=z.rats (i:=3) rfl;obtain⟨xa,xb,xc,xd,P,e1,e2,e3,_⟩:=hE.at Qk.o;have f0:=hE.frozen (i*4);have f1:=hE.frozen (i*4+1);have f2:=hE.frozen (i*4+2);have f3:=hE.frozen (i*4+3);obtain⟨s9,a9,l9,c9,t9,b9,k9,d9,rfl⟩:=Jk.form Q;clear o;refine DT ?_;exact⟨J ⟨g.o.1,g.o.2.1,g.o.2.2.1,g.o.2.2.2.1,λ_ h=>by simp at h,λ_ h=>by simp at h,λ_ h=>by simp at h,λ_=>rfl⟩,J ⟨λh=>by simp at h,λ_=>z.putRats (i:=3) rfl Qk.o Q⟩⟩
    case fin1=>
     rintro D ad V ak ⟨ta,tb,tc,td,te,tf,tg,ti,rfl,g,m⟩;have HO:=J (m.o.2 (ak 8 DQ));clear g m ak;go_wp2_with fail
     go_roundw
     case rel=>exact⟨i+1,_,Y,by go_num,J (M.o.next ap),HO⟩
     case measure=>simp[intOf];omega
  . obtain rfl:i=n:=Y
    have hE:=U.o.rats (i:=3) rfl;have Qc:=hE.row (n:=i) (cap:=i) (by rw[M.o.1];exact Aa _) (Aa _) Y Qd;rw[Ad (by rw[M.o.1];exact Aa _)]at Qc;have Qf:=J (RJ _ S wr Qc (DZ.of λj=>by
     rw[M.o.2 j];split
     . exact Qm.o j
     . exact Ip))
    rw[M.o.done (T:=Dn f ps) (Yc _ _) (λj hj=>Y6 _ _ _) λj hj=>by rw[Y6,J1 (by rw[HN.o];exact hj),CJ]]at Qf;clear hE Qc;go_wp2_with(go_at_call 59;refine Qf.o.mono ?_;clear Qf;rintro e w5 ⟨u5,rfl,ai,_,q⟩;obtain⟨a7,l7,c7,rfl⟩:=ai.form;have n5:=boxed_below (U.o.cell (i:=2) rfl).1 q;have x0:=n5.cell;have x1:=n5.frozen;have Qs:=J (FX n5 (C a7 l7 c7) ai.row);have Qp:=J ((Bt U.o.2.2 q).setCell (p:=⟨w.heap.size+1+1,0,none⟩) (by show w.heap.size<=w.heap.size+1+1;omega) (C a7 l7 c7));clear ai q n5)
    exact BA (v:=.agg #[C a7 l7 c7]) (by simp[results,Tryz.results98,go_sem,x0]) rfl ⟨_,rfl,⟨_,rfl,Qs.o⟩,Qp.o⟩
