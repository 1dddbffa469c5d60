import Derived.Test.YtakpoihdghihmaaGreatDoorC28
import Derived.RangeFuncNested
import Derived.RangeFuncLeaves
import Derived.RangeFuncBound
import Derived.LoopIn
open Go.Value renaming slice->C,bool->L,pointer->I,int->P
open Go renaming World->E,Value->N,undef->B
open Go.Proofs.Tryz renaming prog->F
open Go.Obj renaming cells->M
set_option maxRecDepth 100000
set_option maxHeartbeats 16000000
namespace Go.Proofs.YtakpoihdghihmaaGreatDoor
attribute [local go_sem] Oper.semAt_some
open Go.RowKit Go.Shelf
namespace M3
theorem eF(x y:N)(ps qs:List Rat)(w:E)(f:Jh w x ps)(g:Jh w y qs)(r:Da ps)(s:Da qs)(q:IL ps qs)(o:ps.length+qs.length<=1099511627776):
 Calls F 9 #[x,y] w λe z=>∃u,e=.returned u/\Jh z u (JB ps qs)/\NJ w.heap.size u/\Bl w z:=by
 obtain⟨u,rfl,f⟩:=f;obtain⟨v,rfl,g⟩:=g;obtain⟨a,la,ca,rfl⟩:=f.form;obtain⟨b,lb,cb,rfl⟩:=g.form;obtain⟨W0,c⟩:=ex (((w.alloc (M #[C a la ca] 25)).alloc (M #[C b lb cb] 25)).alloc (M #[C none 0 0] 25));have b0:Boxed W0 w.heap.size 25 (C a la ca):=by rw[<-c];exact((BG w _ _).alloc _).alloc _
 have H:Boxed W0 (w.heap.size+1) 25 (C b lb cb):=by rw[<-c];have:=(BG (w.alloc (M #[C a la ca] 25)) 25 (C b lb cb)).alloc (M #[C none 0 0] 25);simpa using this
 have K:Boxed W0 (w.heap.size+1+1) 25 (C none 0 0):=by rw[<-c];have:=BG ((w.alloc (M #[C a la ca] 25)).alloc (M #[C b lb cb] 25)) 25 (C none 0 0);simpa using this
 have i:Bl w W0:=by rw[<-c];exact((Ba w _).alloc Z _).alloc si _
 obtain⟨m,n,D⟩:=Df (eB a b la ca lb cb ps qs W0 (f.below i) (g.below i) r s q o) (λ(V:E) (v:N) (d:List Rat) (h:RowK true V v d) (hs:Da d)=>IZ v d V h hs) c;have k0:=b0.cell;have k1:=H.cell;clear c f g r s q o;go_enter Tryz.func9,Tryz.ntmps9
 go_upto_region 1 with fail
 rw[D.o];go_wp2_with(first
  |(go_at_call 40;refine m.o.mono ?_;clear m;rintro e w1 ⟨v1,d,rfl,X,t,ad,U,S⟩;have A:=Y t;clear t)
  |(go_at_call 39;refine(n.o _ _ d X ad).mono ?_;clear n;rintro e w2 ⟨u2,rfl,l,W,T⟩;obtain⟨G,l9,Q,rfl⟩:=l.form;have hq:=Bt S T;have k:=boxed_below K hq;have k2:=k.cell;have f2:=k.frozen))
 have R:Jd d=JB ps qs:=YM λj=>A.o j;rw[R]at l;refine A0 (v:=.agg #[C G l9 Q]) (by simp[results,Tryz.results9,go_sem,k2]) rfl ⟨_,rfl,⟨_,rfl,Gu k _ l.row⟩,?_,(Bt i hq).setCell (p:=⟨w.heap.size+1+1,0,none⟩) si _⟩;intro a' l' c' e;have:=W W0.heap.size U a' l' c' e;have h2:=i.size;omega
theorem eH(v z:N)(ps:List Rat)(x:Rat)(w:E)(h:Jh w v ps)(k:Jj w z x)(s:Da ps)(t:Sq x)(r:Iv ps x):
 Calls F 32 #[v,z] w λe A=>∃u,e=.returned u/\Jj A u (ev ps x)/\Bl w A:=by
 obtain⟨u,rfl,j⟩:=h;obtain⟨a,l,c,rfl⟩:=j.form;obtain⟨s8,H,l8,S,t8,Q,k8,U,rfl⟩:=k.form;have f:Mem w _ _:=(((Mem.nil w).push (.cell 25 (C a l c)) (cs:=#[C a l c]) ⟨rfl,rfl⟩).push (.rat x) (Has.alloc (d:=.rat x) k _)).push (.rat 0) (EQ _);simp only[Ax]at f;obtain⟨W0,g⟩:=ex (((w.alloc (M #[C a l c] 25)).alloc (M #[L s8,C H l8 S,L t8,C Q k8 U] 37)).alloc (M #[L false,C none 0 0,L false,C none 0 0] 37));have b:Mem w W0 [some (w.heap.size,.cell 25 (C a l c)),some (w.heap.size+1,.rat x),some (w.heap.size+1+1,.rat 0)]:=by rw[<-g];exact f
 obtain⟨s1,a1,l1,c1,t1,b1,k1,d1,n1,r1,W,m⟩:=b.rat (i:=1) rfl;obtain⟨s2,a2,l2,c2,t2,b2,k2,d2,n2,r2,X,n⟩:=b.rat (i:=2) rfl;have b0:=(b.cell (i:=0) rfl).1;have p:=Y (eE a l c ps _ x W0 (j.below b.2.2) r1 s t r);have G:=Y g;have D:=b.2.2;have k0:=b0.cell;obtain⟨e0,e1,e2,e3⟩:=n1.cq;clear g j s t r k f b r1 W m r2 X n;go_enter Tryz.func32,Tryz.ntmps32
 go_upto_region 1 with fail
 rw[G.o];go_wp2_with(go_at_call 78;refine p.o.mono ?_;clear p;rintro e w1 ⟨u,rfl,y,q⟩;have o:=n2.below q;obtain⟨j0,m,n,j3⟩:=o.cq;obtain⟨f0,f1,f2,f3⟩:=o.fq;obtain⟨af,K,ae,T,ah,R,ad,V,rfl⟩:=Jj.form y)
 exact A0 (v:=.agg #[L af,C K ae T,L ah,C R ad V]) (by simp[results,Tryz.results32,go_sem,j0,m,n,j3]) rfl ⟨_,rfl,y.put4 o rfl rfl rfl rfl _ _ _ _,Jo (Bt D q) O _ _ _ _⟩
theorem TB(n:Int)(D:-9223372036854775808<=n)(G:n<=9223372036854775807)(w:E):
 Calls F 79 #[P .i64 n] w λe y=>∃u,e=.returned u/\Jj y u (n:Rat)/\Bl w y:=by
 have b:Bl w (w.alloc (M #[L false,C none 0 0,L false,C none 0 0] 37)):=Ba w _;have b0:=JF.new w 37 (L false) (C none 0 0) (L false) (C none 0 0);obtain⟨W0,d⟩:=ex (w.alloc (M #[L false,C none 0 0,L false,C none 0 0] 37));rw[d]at b b0;obtain⟨z,g,i,A⟩:=Dy d (K0 n D G W0) (λ(V:E)=>K0 1 O O V) (show DY n from DY.of (k:=2) (by unfold Sm DN;omega) O);have a:=Y λ(V:E) (u v:N) (Q:Jm V u n) (S:Jm V v 1)=>NB u v n 1 V Q S A.o DY.one;rw[show decide ((1:Int)≠0)=true from rfl,show Rat.divInt n 1=(n:Rat)from by rw[Fa];grind]at a;clear d;go_enter Tryz.func79,Tryz.ntmps79
 go_upto_region 1 with fail
 rw[z.o];go_wp2_with(first
  |(go_at_call 29;refine g.o.mono ?_;clear g;rintro e w1 ⟨u1,rfl,c,H⟩)
  |(go_at_call 29;refine(i.o _).mono ?_;clear i;rintro e w2 ⟨u2,rfl,R,p⟩;have c:=c.below p)
  |(go_at_call 28;refine(a.o _ _ _ c R).mono ?_;clear a;rintro e w3 ⟨u3,rfl,q,K⟩;have hq:=Bt (Bt H p) K;obtain⟨t,j,s,m,x,l,r,o,rfl⟩:=Jj.form q;have f:=(b0.below hq).alloc (M #[L t,C j s m,L x,C l r o] 37);obtain⟨T,U,W,X⟩:=f.cq;obtain⟨f0,f1,f2,f3⟩:=f.fq))
 exact A0 (v:=.agg #[L t,C j s m,L x,C l r o]) (by simp[results,Tryz.results79,go_sem,T,U,W,X]) rfl ⟨_,rfl,(q.below (Ba _ _)).put4 f rfl rfl rfl rfl _ _ _ _,Jo ((Bt b hq).alloc (by have:=b.size;have:=hq.size;omega) _) (Aa _) _ _ _ _⟩
end M3
section
end
namespace M3
theorem PP(v:N)(q:Rat)(w:E)(h:Jj w v q)(j:Sq q):
 Calls F 57 #[v] w λe o=>e=.returned (P .i64 (De q))/\Bl w o:=by
 obtain⟨s,a,l,c,t,b,k,d,rfl⟩:=Jj.form h;have g:Bl w (w.alloc (M #[L s,C a l c,L t,C b k d] 37)):=Ba w _;have f:=Y (NC _ _ q 0 _ (h.below g) (EQ _) j KX);rw[dV]at f;obtain⟨n,i⟩:=ex (De q);rw[i]at f ⊢;have m:=Y g;clear h j g i;go_enter Tryz.func57,Tryz.ntmps57
 go_wp2_with(go_at_call 27;refine f.o.mono ?_;clear f;rintro e p ⟨rfl,hq⟩)
 go_ret;exact⟨rfl,Bt m.o hq⟩
theorem TC(v:N)(p:List Rat)(w:E)(h:Jh w v p)(D:Da p)(p0:p≠[]):
 Calls F 48 #[v] w λe b=>e=.returned (P .i64 (Ej p))/\Bl w b:=by
 obtain⟨d,la,f,rfl⟩:=h.form;have c:Bl w (w.alloc (M #[C d la f] 25)):=Ba w _;obtain⟨W0,g⟩:=ex (w.alloc (M #[C d la f] 25));have o:Boxed W0 w.heap.size 25 (C d la f):=by rw[<-g];exact BG w _ _
 rw[g]at c;have s:=Y g;have k:=Y o;have a:=o.cell;have G:=Y c;obtain⟨m,z⟩:=ex (p.length-1:Nat);have r:(p.length:Int)-1=(m:Int):=by have:=Ae.2 p0;omega
 have i:=Y λ(V:E) (l:Bl W0 V)=>Yv _ p V ((h.below c).below l);rw[r]at i;have q:=Y (λ(V:E) (l:Bl W0 V)=>show Calls F 74 #[.agg #[C d la f],P .i64 (m:Int)] V λe b=>∃u,e=.returned u/\Jj b u (cf p m)/\Bl V b by
  have:=K9 _ p (m:Int) V ((h.below c).below l);rw[BB O,CI]at this;exact this)
 have j:=Y λ(V:E) (x:N) (R:Jj V x (cf p m))=>PP x (cf p m) V R (D.at m);have t:Ej p=De (cf p m):=by unfold Ej;rw[z]
 rw[t];obtain⟨n,A⟩:=ex (De (cf p m));rw[A]at j ⊢;clear h D p0 c g o r z t A;go_enter Tryz.func48,Tryz.ntmps48
 go_upto_region 1 with fail
 rw[s.o];clear s;have hq:Bl W0 W0.drew:=(BA _ W0).drew;go_region_held3 (λb=>b.cell? ⟨w.heap.size,0,none⟩=some (C d la f)) (first|(with_reducible exact a)|(go_keep;done))
  (first
   |(go_at_call 30;refine(i.o _ hq).mono ?_;clear i;rintro e T ⟨rfl,H⟩;have hq:=Bt hq H;clear a;have a:=(boxed_below k.o hq).cell)
   |(go_at_call 74;refine(q.o _ hq).mono ?_;clear q;rintro e U ⟨S,rfl,y,K⟩;have hq:=Bt hq K;clear a;have a:=(boxed_below k.o hq).cell)
   |(go_at_call 57;refine(j.o _ _ y).mono ?_;clear j y;rintro e W ⟨rfl,Q⟩;have hq:=Bt hq Q;clear a;have a:=(boxed_below k.o hq).cell))
 go_wp2_with fail
 go_ret;exact⟨rfl,Bt G.o hq⟩
theorem eI(v:N)(p:List Rat)(w:E)(h:Jh w v p)(D:Da p)(p0:p≠[])(hl:p.length<=1000000):
 Calls F 47 #[v] w λe Q=>e=.returned (P .i64 (F8 p))/\Bl w Q:=by
 obtain⟨s,la,t,rfl⟩:=h.form;have f:Bl w (w.alloc (M #[C s la t] 25)):=Ba w _;obtain⟨W0,j⟩:=ex (w.alloc (M #[C s la t] 25));have r:Boxed W0 w.heap.size 25 (C s la t):=by rw[<-j];exact BG w _ _
 rw[j]at f;have g:=Y j;have i:=Y r;have a:=r.cell;have u:=Y f;obtain⟨m,z⟩:=ex (p.length-1:Nat);have G:=Ae.2 p0;have x:(p.length:Int)-1=(m:Int):=O
 have c:=Y λ(V:E) (l:Bl W0 V)=>Yv _ p V ((h.below f).below l);rw[x]at c;have d:=Y λ(V:E) (l:Bl W0 V)=>TC _ p V ((h.below f).below l) D p0;have k:=Hj (cf p (p.length-1));have k:-1<=Ej p/\Ej p<=1:=k;have y:F8 p=if m%2=0 then Ej p else -Ej p:=by
  unfold F8;by_cases b:p.length%2=0
  . rw[BC b,BB O]
  . rw[BB b,BC O]
 rw[y];obtain⟨n,A⟩:=ex (Ej p);rw[A]at d k ⊢;clear h D p0 f j r x y A G;by_cases b:m%2=0
 . rw[BC b];have K:(m:Int)%2=0:=O
   have H:m<=1000000:=O
   clear z hl b;go_enter Tryz.func47,Tryz.ntmps47
   go_upto_region 1 with fail
   rw[g.o];clear g;have hq:=BA W0.heap.size W0;go_wp2_with(first
    |(go_at_call 30;refine(c.o _ hq).mono ?_;clear c;rintro e R ⟨rfl,o⟩;have hq:=Bt hq o;clear a;have a:=(boxed_below i.o hq).cell)
    |(go_at_call 48;refine(d.o _ hq).mono ?_;clear d;rintro e S ⟨rfl,q⟩;have hq:=Bt hq q;clear a;have a:=(boxed_below i.o hq).cell))
   go_ret;exact⟨rfl,Bt u.o hq⟩
 . rw[BB b];have K:(m:Int)%2=1:=O
   have H:m<=1000000:=O
   clear z hl b;go_enter Tryz.func47,Tryz.ntmps47
   go_upto_region 1 with fail
   rw[g.o];clear g;have hq:=BA W0.heap.size W0;go_wp2_with(first
    |(go_at_call 30;refine(c.o _ hq).mono ?_;clear c;rintro e R ⟨rfl,o⟩;have hq:=Bt hq o;clear a;have a:=(boxed_below i.o hq).cell)
    |(go_at_call 48;refine(d.o _ hq).mono ?_;clear d;rintro e S ⟨rfl,q⟩;have hq:=Bt hq q;clear a;have a:=(boxed_below i.o hq).cell))
   go_ret;exact⟨rfl,Bt u.o hq⟩
theorem eJ(v:N)(p:List Rat)(x:Rat)(B:Nat)(s t:Bool)(a b:Option Addr)(l c k d:Nat)(w:E)(h:Jh w v p)(o:JF w B 37 (L s) (C a l c) (L t) (C b k d))(G:Jj w (.agg #[L s,C a l c,L t,C b k d]) x)(z:Da p)(D:Sq x)(u:Iv p x)(A:Sq (ev p x)):
 Calls F 112 #[v,I (some ⟨B,0,none⟩)] w λe w'=>e=.returned (P .i64 (De (ev p x)))/\Bl w w':=by
 obtain⟨W,la,X,rfl⟩:=h.form;have f:Bl w (w.alloc (M #[C W la X] 25)):=Ba w _;have j:=Y (eH _ _ p x _ (h.below f) (G.below f) z D u);have g:=Y λ(V:E) (y:N) (U:Jj V y (ev p x))=>PP y (ev p x) V U A;obtain⟨n,r⟩:=ex (De (ev p x));rw[r]at g ⊢;have m:=o.below f;obtain⟨H,K,Q,R⟩:=m.cq;have i:=Y f;clear h o G z D u A f r m;go_enter Tryz.func112,Tryz.ntmps112
 go_wp2_with(first
  |(go_at_call 32;refine j.o.mono ?_;clear j;rintro e w5 ⟨u5,rfl,S,q⟩;clear H K Q R)
  |(go_at_call 57;refine(g.o _ _ S).mono ?_;clear g;rintro e w6 ⟨rfl,T⟩))
 go_ret;exact⟨rfl,(Bt i.o q).trans (T.mono (Am i.o.size q.size))⟩
theorem PQ(v:N)(x:Rat)(w:E)(g:Jj w v x):
 Calls F 51 #[v] w λe i=>∃B s t a b l c k d,e=.returned (.func (.func 112) #[] #[I (some ⟨B,0,none⟩)])/\JF i B 37 (L s) (C a l c) (L t) (C b k d)/\Jj i (.agg #[L s,C a l c,L t,C b k d]) x/\Bl w i:=by
 obtain⟨s,a,l,c,t,b,k,d,rfl⟩:=Jj.form g;have f:Bl w (w.alloc (M #[L s,C a l c,L t,C b k d] 37)):=Ba w _;have m:=Y (g.below f);have j:=Y f;clear g f;go_enter Tryz.func51,Tryz.ntmps51
 go_wp2_with fail
 go_ret;exact⟨_,s,t,a,b,l,c,k,d,rfl,JF.new w _ _ _ _ _,m.o,j.o⟩
end M3
namespace M3
def Lz{α:Type}(G:List α->E->Prop):Prop:=∀H W W',G H W->Bl W W'->G H W'
variable{lb pb:Array N}{G:List Int->E->Prop}{B' gf l pf:Nat}{g:Nat->N->Act}{row:Option Nat}{ty:TypeId}{v:N}{W W' W0 w:E}
theorem eK{n m:Nat}{P:Program}{args:Array N}{R:Ending->E->Prop}(h:YieldAt Fence.wide n P l args W R):YieldAt Fence.wide m P l args W R:=by
 obtain⟨fn,t,a,b,e,d⟩:=h;exact⟨fn,t,a,b,e,d.1,λc cs _=>d.2 c cs (room_wide _)⟩
def eL{α:Type}(l b:Nat)(xs:List α)(a:E->N->α->Prop)(G:List α->E->Prop):Prop:=
 ∀n H x v W,G H W->a W v x->H++[x] <+: xs->b<=W.heap.size->YieldAt Fence.wide n F l #[v] W λe W'=>e=.returned (L true)/\G (H++[x]) W'/\W.heap.size<=W'.heap.size/\∀(k:Nat) (o:Obj),b<=k->W.heap[k]?=some o->W'.heap[k]?=some o
def Iw{α:Type}(gf:Nat)(lb:Array N)(w0:E)(xs:List α)(a:E->N->α->Prop):Prop:=
 ∀(n l:Nat) (G:List α->E->Prop) (W0:E),Bl w0 W0->Lz G->OwnFrom W0.heap.size G->(∀H W,G H W->Bl w0 W)->eL l W0.heap.size xs a G->G [] W0->
  CallsIn Fence.wide n F gf (#[.func (.yield l) #[] #[]]++lb) W0 λe W'=>(∃v,e=.returned v)/\G xs W'
def LB{α:Type}(b:Nat)(I:List α->E->Prop)(H:List α)(W:E):Exit->Act->E->Prop
 |.normal,_,W'=>I H W'/\W.heap.size<=W'.heap.size/\∀(k:Nat) (o:Obj),b<=k->W.heap[k]?=some o->W'.heap[k]?=some o
 |_,_,_=>False
theorem PR{α:Type}{g:Operand}{ps:Array Tmp}{assign body:Code}{Q:Exit->Act->E->Prop}{a:Act}{w:E}{n:Nat}
{gf:Nat}{lb:Array N}{w0:E}{xs:List α}{ad:E->N->α->Prop}(az:Iw gf lb w0 xs ad)(am:Bl w0 w)
(hg:a.eval g=.func (.func gf) #[] lb)(eg:∀args w,(callFunc gf args).run F w=.ok (.enter gf args) w)(ay:ps.size=1)
(I:List α->E->Prop)(u:OwnFrom w.heap.size I)(ae:Lz I)(af:∀H W,I H W->Bl w0 W)(h0:I [] w)(G:α->Act->E->Prop)(ai:∀x a',OwnFrom w.heap.size λ(_:Unit) W=>G x a' W)
(aj:∀(l:Nat) (v:N) (x:α) (W:E) (K:Act->E->Prop),ad W v x->Bl w0 W->(∀a' W',Bl W W'->G x a' W'->K a' W')->
  assign.wpIn (Fence.wide.inRound l) (n-1-1) F (Exit.then K λ_ _ _=>False) { tmps:=(ps.zip #[v]).foldl (λt (p,v)=>t.setIfInBounds p v) a.tmps,defers:=[] } W)
(an:∀(l:Nat) (a':Act) (x:α) (H:List α) (W:E),I H W->G x a' W->H++[x] <+: xs->w.heap.size+1<W.heap.size->
  body.wpIn (Fence.wide.inRound l) (n-1-1) F (LB w.heap.size I (H++[x]) W) a' W)
(ap:∀(D:Nat) (W:E),w.heap.size<=D->I xs W->W.heap[D]?=some (.deferred (some []))->Q .normal { a with defers:={ target:=.collected D,args:=#[] }::a.defers } W):
 (Code.rangeFunc g ps assign body).wpIn Fence.wide n F Q a w:=by
 refine wpIn_rangeFunc λfn aq=>?_;rw[show Fence.wide.round=none from rfl];obtain⟨rc,j⟩:∃rc:LoopState->Option Code->Loop,rc=λst pe=>{ state:=st,pending:=pe,fn,tmps:=a.tmps,params:=ps,assign,body,defers:=w.heap.size }:=⟨_,rfl⟩;obtain⟨V,y⟩:=ex ((w.alloc (.deferred (some []))).alloc (.loop (rc .ready none)));have vL:V.heap[w.heap.size+1]?=some (.loop (rc .ready none)):=by
  rw[<-y];have:=BE (w.alloc (.deferred (some []))) (.loop (rc .ready none));rwa[Ax]at this
 have vD:V.heap[w.heap.size]?=some (.deferred (some [])):=by
  rw[<-y];exact(Bj _ _ _ Z).trans (BE w _)
 have vI:I [] V:=by rw[<-y];exact u.alloc _ (u.alloc _ h0)
 have Qo:Bl w V:=by rw[<-y];exact(Ba w _).alloc (by rw[Ax];omega) _
 have bc:V.heap.size=w.heap.size+2:=by rw[<-y];simp
 refine⟨w.heap.size+1,[{ target:=.collected w.heap.size,args:=#[] }],V,{ target:=.fn (.func gf) lb,args:=#[.func (.yield (w.heap.size+1)) #[] #[]] },V,gf,
  #[.func (.yield (w.heap.size+1)) #[] #[]]++lb,V,?_,?_,?_,?_,λh=>by simp[Fence.wide]at h,?_⟩
 . rw[<-y,j];exact run_enterLoop_outer _ _ _ _ _
 . simp only[resolve,hg];simp[go_sem]
 . intro f' ah;simp[Target.leads]at ah;subst ah;exact trivial
 . simp[invoke,go_sem,eg]
 refine(az (n-1) (w.heap.size+1)
  (λH W=>I H W/\W.heap[w.heap.size+1]?=some (.loop (rc .ready none))/\W.heap[w.heap.size]?=some (.deferred (some [])))
  V (Bt am Qo) ?_ ?_ (λH W h=>af H W h.1) ?_ ⟨vI,vL,vD⟩).mono ?_
 . rintro H W W' ⟨d,hl,b⟩ T;exact⟨ae _ _ _ d T,(T.block _ (Ab.1 hl).1).trans hl,(T.block _ (Ab.1 b).1).trans b⟩
 . rintro H W W' row ⟨d,hl,b⟩ X i;exact⟨u H W W' row d X λr e=>⟨by have:=(i r e).1;omega,(i r e).2⟩,(X.block _ (Ab.1 hl).1 λe=>by have:=(i _ e.symm).1;omega).trans hl,(X.block _ (Ab.1 b).1 λe=>by have:=(i _ e.symm).1;omega).trans b⟩
 . rintro m H x v W ⟨d,hl,b⟩ hx ax bh;have Qc:w.heap.size+1<W.heap.size:=(Ab.1 hl).1;have hy:=run_yield (P:=F) (args:=#[v]) hl (by rw[j];exact ay.symm);rw[j]at hy;refine eK (n:=n-1-1) ⟨fn,_,assign,body,hy,roundIn_of_wpIn aq (aj _ _ x W _ hx (af _ _ d) λa' f A ak=>?_)⟩;have R:f.heap[w.heap.size+1]?=some (.loop (rc .ready none)):=(A.block _ Qc).trans hl;have Qk:f.heap[w.heap.size]?=some (.deferred (some [])):=(A.block _ O).trans b;have Qh:I H f:=ae _ _ _ d A;refine⟨_,run_beginRound R (by rw[j]),?_⟩;have Qd:w.heap.size+1<f.heap.size:=(Ab.1 R).1;obtain⟨c,z⟩:=ex (f.putObj (w.heap.size+1) (.loop { rc .ready none with state:=.busy }));rw[z];have Qi:c.heap[w.heap.size+1]?=some (.loop { rc .ready none with state:=.busy }):=by rw[<-z];exact Be Qd
   have Qg:∀k,k≠w.heap.size+1->c.heap[k]?=f.heap[k]?:=λk b=>by rw[<-z];exact BM O
   have Qj:c.heap[w.heap.size]?=some (.deferred (some [])):=(Qg _ O).trans Qk;have Ql:I H c:=by rw[<-z];exact u.putObj _ Qh O R rfl
   have Qf:G x a' c:=by rw[<-z];exact(ai x a').putObj (s:=()) _ ak O R rfl
   have bf:f.heap.size=c.heap.size:=by rw[<-z];simp[World.putObj]
   refine wpIn_mono (an _ a' x H c Ql Qf ax O) λe a3 q hp=>?_;cases e with
   |normal=>
    obtain⟨aw,bg,U⟩:=hp;have S:=U _ _ O Qi;have i:=run_endRound (P:=F) none S;have Qa:∀k,k≠w.heap.size+1->(q.putObj (w.heap.size+1) (.loop (rc .ready none))).heap[k]?=q.heap[k]?:=λk b=>BM O;have Qm:(Instr.endRound (w.heap.size+1) none).run F q=.ok (L true) (q.putObj (w.heap.size+1) (.loop (rc .ready none))):=by
     rw[j]at i ⊢;exact i
    refine⟨_,_,Qm,rfl,⟨u.putObj _ aw O S rfl,Be (Ab.1 S).1,(Qa _ O).trans (U _ _ (Aa _) Qj)⟩,?_,λk o b ho=>?_⟩
    . have h5:=A.size;have h6:(q.putObj (w.heap.size+1) (.loop (rc .ready none))).heap.size=q.heap.size:=by simp[World.putObj]
      omega
    . have Qn:k<W.heap.size:=(Ab.1 ho).1;exact(Qa k O).trans (U k o O ((Qg k O).trans ((A.block k Qn).trans ho)))
   |ret=>exact hp.elim
   |exit id=>exact hp.elim
   |goto t=>exact hp.elim
   |panic ch=>exact hp.elim
   |outgrown=>exact hp.elim
 . rintro e c ⟨⟨v,rfl⟩,d,hl,b⟩;exact⟨none,_,by have:=run_endLoop (P:=F) hl (by rw[j];simp);rw[j]at this;exact this,ap _ _ (Aa _) (u.putObj _ d O hl rfl) ((BM O).trans b)⟩
def PS(_:E)(v:N)(s:Int):Prop:=v=.int .i64 s
def Gc(w:E)(H:List Int)(W:E):Prop:=
 Boxed W w.heap.size 3 (.int .i64 ((H.foldl D6 (0,0)).1:Int))/\Boxed W (w.heap.size+1) 3 (.int .i64 (H.foldl D6 (0,0)).2)/\Bl w W
theorem Gc.bel{H:List Int}(h:Gc w H W)(a:Bl W W'):Gc w H W':=⟨boxed_below h.1 a,boxed_below h.2.1 a,Bt h.2.2 a⟩
theorem Gc.own{B:Nat}(c:w.heap.size<=B):OwnFrom B (Gc w):=λ_ _ _ _ h a b=>
 ⟨Yw a (λr e=>(b r e).2) h.1,Yw a (λr e=>(b r e).2) h.2.1,h.2.2.grown a h.2.2.size λk e=>Am c (b k e).1⟩
theorem TD(w:E)(xs:List Int)(ad:Iw gf lb w xs PS)(eg:∀args w,(callFunc gf args).run F w=.ok (.enter gf args) w)(hx:∀s∈xs,-1<=s/\s<=1)(hl:xs.length<=1000000):
 Calls F 54 #[.func (.func gf) #[] lb] w λe w'=>e=.returned (P .i64 (XW xs:Int))/\Bl w w':=by
 obtain⟨G,t,z⟩:=Df ad hx hl;obtain⟨d,i⟩:=ex ((w.alloc (M #[P .i64 0] 3)).alloc (M #[P .i64 0] 3));have Q:Bl w d:=by rw[<-i];exact(Ba w _).alloc (by rw[Ax];omega) _
 have Ql:Gc w [] d:=by
  rw[<-i];refine⟨(BG w 3 (P .i64 0)).alloc _,?_,by rw[i];exact Q⟩;have:=BG (w.alloc (M #[P .i64 0] 3)) 3 (P .i64 0);rwa[Ax]at this
 have V:d.heap.size=w.heap.size+2:=by rw[<-i];simp
 obtain⟨S,T,u,Qk⟩:=Dy Ql Q V i;clear ad hx hl Q Ql V i;refine(BI (n:=3)).1 ?_;refine BP Tryz.func54 rfl trivial ?_ rfl;simp only[Tryz.ntmps54,Av,Ai,AD,Nat.reduceAdd,Nat.reduceSub,AE,AF,AX,AH,Au,AN];gi_wp2_with fail
 rw[Qk.o];clear Qk;refine PR G.o T.o rfl eg rfl (Gc w) (Gc.own (by have:=u.o;omega)) (λ_ _ _ h hb=>h.bel hb) (λ_ _ h=>h.2.2) S.o
  (λs a _=>a={ tmps:=#[.func (.func gf) #[] lb,B,P .i64 0,I (some ⟨w.heap.size,0,none⟩),I (some ⟨w.heap.size+1,0,none⟩),P .i64 s,.func (.func gf) #[] lb,P .i64 s,B,B,B,B,B,B,B,B,B,B],defers:=[] }) (λ_ _ _ _ _ _ h _ _=>h) ?assign ?body ?done
 case assign=>
  intro l v s W K he hB q;obtain rfl:v=P .i64 s:=he;have r:=Y (q _ W (BA _ W) rfl);clear q hB;gi_wp2;exact r.o
 case body=>
  intro l a' s H W m ae y ah;subst ae;have hs:=t.o s (y.subset Z);have A:=NM H (0,0) (λa ha=>t.o a (y.subset (by simp[ha]))) DO;have Qm:H.length<=1000000:=by
   have c:=y.length_le;have f:=z.o;simp only[Aq,Ai,AD]at c;omega
  obtain⟨c,f,h3⟩:=m;obtain⟨st,U⟩:=ex (H.foldl D6 (0,0));have X:(H++[s]).foldl D6 (0,0)=D6 st s:=by rw[dT,U]
  rw[U]at c f A;obtain⟨n,l2⟩:=st;simp only at c f A;obtain⟨⟨ai,aj⟩,af⟩:=A;have hn:n<=1000000:=O
  have e3:=c.cell;have e4:=f.cell;have f3:=c.frozen;have f4:=f.frozen;obtain⟨b,Qj,R⟩:=Df (And.intro c (And.intro f h3)) (show w.heap.size+2<=d.heap.size by rw[u.o];exact Aa _) X;clear c f h3 y ah af Qm U X t z S T u G;by_cases x:s=0
  . have g:=Y (show ∀j,LB d.heap.size (Gc w) (H++[s]) W .normal j W from λ_=>⟨by
     have e:D6 (n,l2) s=(n,l2):=by unfold D6;rw[BC x]
     unfold Gc;rw[R.o,e];exact b.o,Aa _,λ_ _ _ h=>h⟩)
    subst x;gi_wp2;exact g.o _
  . by_cases c:s=-l2
    . subst c;have g:=Y (show ∀j,LB d.heap.size (Gc w) (H++[-l2]) W .normal j ((W.setCell ⟨w.heap.size,0,none⟩ (P .i64 ((n+1:Nat):Int))).setCell ⟨w.heap.size+1,0,none⟩ (P .i64 (-l2)))from λ_=>⟨by
       have e:D6 (n,l2) (-l2)=(n+1,-l2):=by unfold D6;rw[BB x,BC rfl]
       unfold Gc;rw[R.o,e];exact⟨Boxed.other (b.o.1.set _) O _,(Boxed.other b.o.2.1 O _).set _,(b.o.2.2.setCell (p:=⟨w.heap.size,0,none⟩) (Aa _) _).setCell (p:=⟨w.heap.size+1,0,none⟩) (by show w.heap.size<=w.heap.size+1;omega) _⟩,by rw[World.size_setCell,World.size_setCell];exact Aa _,λk o hk h=>by
       have:=Qj.o;exact(BD _ ⟨w.heap.size+1,0,none⟩ _ k (by show k≠w.heap.size+1;omega)).trans ((BD _ ⟨w.heap.size,0,none⟩ _ k (by show k≠w.heap.size;omega)).trans h)⟩)
      have Qn:=(Boxed.other b.o.2.1 (show w.heap.size+1≠w.heap.size by omega) (P .i64 ((n+1:Nat):Int))).frozen;have Qo:=(Boxed.other b.o.2.1 (show w.heap.size+1≠w.heap.size by omega) (P .i64 ((n+1:Nat):Int))).cell;push_cast at g Qn Qo
      gi_wp2;exact g.o _
    . have g:=Y (show ∀j,LB d.heap.size (Gc w) (H++[s]) W .normal j (W.setCell ⟨w.heap.size+1,0,none⟩ (P .i64 s))from λ_=>⟨by
       have e:D6 (n,l2) s=(n,s):=by unfold D6;rw[BB x,BB c]
       unfold Gc;rw[R.o,e];exact⟨Boxed.other b.o.1 O _,b.o.2.1.set _,b.o.2.2.setCell (p:=⟨w.heap.size+1,0,none⟩) (by show w.heap.size<=w.heap.size+1;omega) _⟩,by rw[World.size_setCell];exact Aa _,λk o hk h=>by
       have:=Qj.o;exact(BD _ ⟨w.heap.size+1,0,none⟩ _ k (by show k≠w.heap.size+1;omega)).trans h⟩)
      gi_wp2;exact g.o _
 case done=>
  intro D W hD m q;have e3:=m.1.cell;obtain⟨r,b,HD⟩:=Df q m.2.2 (show w.heap.size<=D by have:=u.o;omega);clear m hD q G t z S T;gi_wp2_with fail
  refine⟨Z,.inl ⟨_,_,rfl,BX r.o,?_⟩⟩;exact⟨P .i64 (XW xs:Int),by simp[results,Tryz.results54,go_sem];rfl,rfl,b.o.trans (DH (w:=w) (Aa _) _ D _ _ HD.o r.o rfl rfl)⟩
def NO(W:E)(v:N)(p:List Rat):Prop:=Jh W v p
def PT(W:E)(v:N)(q:Rat):Prop:=Jj W v q
def LC{α:Type}(pf:Nat)(pb:Array N)(w0:E)(xs:List α)(a:E->N->α->Prop)(f:α->Int):Prop:=
 ∀W v x,Bl w0 W->a W v x->x∈xs->Calls F pf (#[v]++pb) W λe W'=>e=.returned (.int .i64 (f x))/\Bl W W'
def GI{α:Type}(W0:E)(l:Nat)(f:α->Int)(G:List Int->E->Prop)(ty:TypeId)(H:List α)(W:E):Prop:=G (H.map f) W/\Boxed W W0.heap.size ty (.func (.yield l) #[] #[])
theorem GI.own{α:Type}{f:α->Int}(d:OwnFrom W0.heap.size G){B:Nat}(c:W0.heap.size<=B):OwnFrom B (GI W0 l f G ty):=λ_ W W' row h b a=>
 ⟨d _ W W' row h.1 b λr e=>⟨Am c (a r e).1,(a r e).2⟩,Yw b (λr e=>(a r e).2) h.2⟩
theorem GI.bel{α:Type}{f:α->Int}(b:Lz G):Lz (GI W0 l f G ty):=λ_ _ _ h a=>⟨b _ _ _ h.1 a,boxed_below h.2 a⟩
def Kb{α:Type}(W0 W:E)(l:Nat)(f:α->Int)(G:List Int->E->Prop)(ty:TypeId)(H:List α)(V:E):Prop:=GI W0 l f G ty H V/\W.heap.size<=V.heap.size/\∀(k:Nat) (o:Obj),W0.heap.size<=k->W.heap[k]?=some o->V.heap[k]?=some o
theorem Kb.bel{α:Type}{W0 W:E}{l:Nat}{f:α->Int}{G:List Int->E->Prop}{ty:TypeId}{H:List α}{V V':E}(b:Lz G)(h:Kb W0 W l f G ty H V)(a:Bl V V'):Kb W0 W l f G ty H V':=
 ⟨GI.bel b _ _ _ h.1 a,Am h.2.1 a.size,λk o c d=>by have:=h.2.2 k o c d;exact(a.block k (Ab.1 this).1).trans this⟩
theorem eM(a:W.grownBy W' row)(b:∀r,row=some r->∃o:Obj,W.heap[r]?=some o/\o.isCells=false){ps:List Rat}(h:Jh W v ps):Jh W' v ps:=by
 obtain⟨u,e,h⟩:=h;exact⟨u,e,Iu a b h⟩
def NP(e:Nat->N->Act)(B:Nat)(x:List Rat)(a:Act)(W:E):Prop:=∃b c l d,B<=b/\Boxed W b 25 (C c l d)/\Jh W (.agg #[C c l d]) x/\a=e b (C c l d)
theorem NP.own{B:Nat}(x:List Rat)(a:Act):OwnFrom B' (λ(_:Unit) W=>NP g B x a W):=λ_ _ _ _ h f i=>by
 obtain⟨b,c,l,d,j,k,m,n⟩:=h;exact⟨b,c,l,d,j,Yw f (λr e=>(i r e).2) k,eM f (λr e=>(i r e).2) m,n⟩
theorem eN(w0:E)(xs:List (List Rat))(f:List Rat->Int)(u A:Nat)(aq:Iw gf lb w0 xs NO)(eg:∀args w,(callFunc gf args).run F w=.ok (.enter gf args) w)(ep:∀args w,(callFunc pf args).run F w=.ok (.enter pf args) w)
(an:Boxed w0 u 125 (.func (.func gf) #[] lb))(am:Boxed w0 A 39 (.func (.func pf) #[] pb))(hp:LC pf pb w0 xs NO f):
 Iw 154 #[I (some ⟨u,0,none⟩),I (some ⟨A,0,none⟩)] w0 (xs.map f) PS:=by
 intro n l G W0 ak ae ai aj hY ah;have Qq:Tryz.prog.follows .mixedOrders=true:=by kernel_rfl
 obtain⟨s,t⟩:=ex (W0.alloc (M #[.func (.yield l) #[] #[]] 147));have Qe:Bl W0 s:=by rw[<-t];exact Ba W0 _
 have Qj:s.heap.size=W0.heap.size+1:=by rw[<-t];simp
 have Qh:GI W0 l f G 147 [] s:=⟨ae _ _ _ ah Qe,by rw[<-t];exact BG W0 _ _⟩;have Qd:Bl w0 s:=Bt ak Qe;obtain⟨Qo,HP,Qn,Qc,Qf,Qi,Qm,Qk⟩:=GX aq hp ae ai aj hY Qh Qd;obtain⟨y,Ql,Qg⟩:=Df Qj t am;have c1:s.cell? ⟨u,0,none⟩=some (.func (.func gf) #[] lb):=(boxed_below an (Qd.mono (by exact Aa _))).cell;rw[<-t]at c1;clear aq hp ae ai aj hY Qh Qd Qj t Qe ak ah an am;refine BP Tryz.func154 rfl trivial ?_ rfl;simp only[Tryz.ntmps154,Av,Ai,AD,Nat.reduceAdd,Nat.reduceSub,AE,AF,AX,AH,Au,AN];gi_wp2_with fail
 rw[Ql.o];clear Ql c1;refine PR Qo.o Qk.o rfl eg rfl (GI W0 l f G 147) (GI.own Qc.o (by have:=y.o;omega)) (GI.bel Qn.o) (λ_ _ h=>Qf.o _ _ h.1) Qm.o
  (NP (λb v=>{ tmps:=#[.func (.yield l) #[] #[],I (some ⟨u,0,none⟩),I (some ⟨A,0,none⟩),I (some ⟨W0.heap.size,0,none⟩),I (some ⟨b,0,none⟩),.func (.func gf) #[] lb,.agg #[v],B,B,B,B,B,B],defers:=[] }) w0.heap.size) (λx a=>NP.own x a) ?assign ?body ?done
 case assign=>
  intro l1 v x W K he d p;obtain⟨a,l2,c,rfl⟩:=Jh.form (show Jh W v x from he);have hA:Bl W (W.alloc (M #[C a l2 c] 25)):=Ba W _;have Q:=Y (p _ (W.alloc (M #[C a l2 c] 25)) hA ⟨W.heap.size,a,l2,c,d.size,BG W _ _,Jh.below he hA,rfl⟩);clear p d he hA;gi_wp2;exact Q.o
 case body=>
  rintro l1 a' x H W r ⟨b,a,l2,c,az,ap,hx,rfl⟩ af bc;have hW:=Qf.o _ _ r.1;obtain⟨Qs,Qw,Qp,Qr,Qt,HN,Qu⟩:=Ky (λ(V:E) (d:Bl W V)=>(boxed_below r.2 d).cell) (λ(V:E) (d:Bl W V)=>(boxed_below (boxed_below Qg.o hW) d).cell) (λ(V:E) (d:Bl W V)=>(boxed_below ap d).cell) (λ(V:E) (d:Bl W V)=>HP.o V _ x (Bt hW d) (hx.below d) (af.subset Z)) (λ(n9:Nat) (V:E) (d:Bl W V)=>Qi.o n9 (H.map f) (f x) (P .i64 (f x)) V (Qn.o _ _ _ r.1 d) rfl (by have:=af.map f;rwa[List.map_append]at this) (Am (by have:=y.o;omega) d.size)) (λ(V V':E) (d:Bl W V) (h:G (H.map f++[f x]) V'/\V.heap.size<=V'.heap.size/\∀(k:Nat) (o:Obj),W0.heap.size<=k->V.heap[k]?=some o->V'.heap[k]?=some o)=>show Kb W0 W l f G 147 (H++[x]) V' from⟨⟨by rw[List.map_append];exact h.1,h.2.2 _ _ (Aa _) (boxed_below r.2 d)⟩,Am d.size h.2.1,λk o hk S=>h.2.2 k o hk ((d.block k (Ab.1 S).1).trans S)⟩) (show W0.heap.size<=s.heap.size by have:=y.o;omega);clear r az ap hx af bc hW Qo HP Qc Qf Qi Qm Qk y Qg;dsimp only;gi_wp2_with fail
  refine J4 Qq [[],[],[],[1,2],[0,3,3],[4]] (by kernel_rfl) DO
   (λD z V=>∃(U X tg ta tb T:N),z={ tmps:=#[.func (.yield l) #[] #[],I (some ⟨u,0,none⟩),I (some ⟨A,0,none⟩),I (some ⟨W0.heap.size,0,none⟩),I (some ⟨b,0,none⟩),.func (.func gf) #[] lb,.agg #[C a l2 c],U,X,tg,ta,tb,T],defers:=[] }/\Hid ((D 0=true->U=.func (.yield l) #[] #[])/\(D 1=true->X=.func (.func pf) #[] pb)/\(D 2=true->tg=.agg #[C a l2 c])/\(D 3=true->ta=P .i64 (f x))/\(D 4=true->tb=L true)/\(D 5=true->T=L false))/\Hid ((D 4=false->Bl W V)/\(D 4=true->Kb W0 W l f G 147 (H++[x]) V)))
   ⟨_,_,_,_,_,_,rfl,Y Z,Y ⟨λ_=>(BA _ W).drew,Z⟩⟩ ?step ?fin
  case step=>
   rintro D z V i ds R hi m aw ⟨U,X,tg,ta,tb,T,rfl,g,j⟩;have bg:i<6:=(Ad.1 hi).1;have q:i<5->D 4=false:=λbh=>by
    cases h:D 4 with
    |false=>rfl
    |true=>
     exfalso
     have h3:=R 4 _ rfl h 3 Z;have h0:=R 4 _ rfl h 0 Z;have h1:=R 3 _ rfl h3 1 Z;have h2:=R 3 _ rfl h3 2 Z;obtain rfl|rfl|rfl|rfl|rfl:=MP i O
     all_goals simp_all
   obtain rfl|rfl|rfl|rfl|rfl|rfl:=OE i O
   all_goals
    simp only[Aj,Ag,An]at hi;subst hi
   . have d:=j.o.1 (q O);have e0:=Qs.o V d;clear m;refine Dh ?_;exact⟨(Dm g),Y ⟨λh=>j.o.1 (by simpa using h),λh=>j.o.2 (by simpa using h)⟩⟩
   . have d:=j.o.1 (q O);have e0:=Qw.o V d;clear m;refine Dh ?_;exact⟨(Ds g),Y ⟨λh=>j.o.1 (by simpa using h),λh=>j.o.2 (by simpa using h)⟩⟩
   . have d:=j.o.1 (q O);have e0:=Qp.o V d;clear m;refine Dh ?_;exact⟨(Dj g),Y ⟨λh=>j.o.1 (by simpa using h),λh=>j.o.2 (by simpa using h)⟩⟩
   . have d:=j.o.1 (q O);have Qv:=q O;obtain rfl:=g.o.2.1 (m 1 Z);obtain rfl:=g.o.2.2.1 (m 2 Z);clear m q;refine BN rfl λK p=>?_;go_simp;refine⟨trivial,λh=>by simp[Fence.wide]at h,(Bh l1 ((BI (n:=_)).2 (Qr.o V d))).mono ?_⟩;rintro e w5 ⟨rfl,ay⟩;exact p _ _ ⟨_,_,_,_,_,_,rfl,Y ⟨g.o.1,λ_=>rfl,λ_=>rfl,λ_=>rfl,g.o.2.2.2.2.1,g.o.2.2.2.2.2⟩,Y ⟨λ_=>Bt d ay,λh=>by simp[Qv]at h⟩⟩
   . have d:=j.o.1 aw;obtain rfl:=g.o.1 (m 0 Z);obtain rfl:=g.o.2.2.2.1 (m 3 Z);clear m q;obtain⟨fn,tm,bf,bd,hy,ax⟩:=Qt.o (n-1-1-1) V d;refine BN rfl λK p=>?_;go_simp;refine⟨λh=>by simp[Fence.wide]at h,RoundIn.mono ax ?_⟩;rintro e w5 ⟨rfl,h5⟩;exact p _ _ ⟨_,_,_,_,_,_,rfl,Y ⟨λ_=>rfl,g.o.2.1,g.o.2.2.1,λ_=>rfl,λ_=>rfl,g.o.2.2.2.2.2⟩,Y ⟨λh=>by simp at h,λ_=>HN.o V w5 d h5⟩⟩
   . obtain rfl:=g.o.2.2.2.2.1 (m 4 Z);clear m q;refine Dh ?_;exact⟨Y ⟨g.o.1,g.o.2.1,g.o.2.2.1,g.o.2.2.2.1,λ_=>rfl,λ_=>rfl⟩,Y ⟨λh=>j.o.1 (by simpa using h),λh=>j.o.2 (by simpa using h)⟩⟩
  case fin=>
   rintro D z V ad ⟨U,X,tg,ta,tb,T,rfl,g,j⟩;obtain rfl:=g.o.2.2.2.2.2 (ad 5 DO);have HE:=Y (show ∀z,LB s.heap.size (GI W0 l f G 147) (H++[x]) W .normal z V from λ_=>by
    have h:=j.o.2 (ad 4 DO);exact⟨h.1,h.2.1,λk o hk S=>h.2.2 k o (Am Qu.o hk) S⟩)
   clear g j ad;gi_wp2;exact HE.o _
 case done=>
  intro D W hD r p;obtain⟨Q,HI,HD⟩:=Df p r (show W0.heap.size<=D by have:=y.o;omega);clear r hD p;gi_wp2_with fail
  refine⟨Z,.inl ⟨_,_,rfl,BX Q.o,?_⟩⟩;refine⟨_,results_none rfl _ _ _,⟨_,rfl⟩,?_⟩;exact Qc.o.putObj _ HI.o.1 HD.o Q.o rfl
theorem eO(a:W.grownBy W' row)(b:∀r,row=some r->∃o:Obj,W.heap[r]?=some o/\o.isCells=false){q:Rat}(h:Jj W v q):Jj W' v q:=EF.keep (r:=true) h λ_ _ _ h=>NL a b h
def NQ(g:Nat->N->Act)(B:Nat)(x:Rat)(a:Act)(W:E):Prop:=∃b e f c d l1 c1 l2 c2,B<=b/\JF W b 37 (L e) (C c l1 c1) (L f) (C d l2 c2)/\Jj W (.agg #[L e,C c l1 c1,L f,C d l2 c2]) x/\a=g b (.agg #[L e,C c l1 c1,L f,C d l2 c2])
theorem NQ.own{B:Nat}(x:Rat)(a:Act):OwnFrom B' (λ(_:Unit) W=>NQ g B x a W):=λ_ _ _ _ h c d=>by
 obtain⟨b,l,m,x1,n,l1,c1,l2,c2,f,i,j,k⟩:=h;exact⟨b,l,m,x1,n,l1,c1,l2,c2,f,Yw c (λr e=>(d r e).2) i,eO c (λr e=>(d r e).2) j,k⟩
theorem eQ(w0:E)(xs:List Rat)(f:Rat->Int)(R U:Nat)(aw:Iw gf lb w0 xs PT)(eg:∀args w,(callFunc gf args).run F w=.ok (.enter gf args) w)(ep:∀args w,(callFunc pf args).run F w=.ok (.enter pf args) w)
(ap:Boxed w0 R 96 (.func (.func gf) #[] lb))(an:Boxed w0 U 61 (.func (.func pf) #[] pb))(hp:LC pf pb w0 xs PT f):
 Iw 116 #[I (some ⟨R,0,none⟩),I (some ⟨U,0,none⟩)] w0 (xs.map f) PS:=by
 intro n l G W0 am af aj ak hY ai;have Qq:Tryz.prog.follows .mixedOrders=true:=by kernel_rfl
 obtain⟨s,y⟩:=ex (W0.alloc (M #[.func (.yield l) #[] #[]] 147));have Qe:Bl W0 s:=by rw[<-y];exact Ba W0 _
 have Qj:s.heap.size=W0.heap.size+1:=by rw[<-y];simp
 have Qh:GI W0 l f G 147 [] s:=⟨af _ _ _ ai Qe,by rw[<-y];exact BG W0 _ _⟩;have Qd:Bl w0 s:=Bt am Qe;obtain⟨Qo,HP,Qn,Qc,Qf,Qi,Qm,Qk⟩:=GX aw hp af aj ak hY Qh Qd;obtain⟨S,Ql,Qg⟩:=Df Qj y an;have c1:s.cell? ⟨R,0,none⟩=some (.func (.func gf) #[] lb):=(boxed_below ap (Qd.mono (by exact Aa _))).cell;rw[<-y]at c1;clear aw hp af aj ak hY Qh Qd Qj y Qe am ai ap an;refine BP Tryz.func116 rfl trivial ?_ rfl;simp only[Tryz.ntmps116,Av,Ai,AD,Nat.reduceAdd,Nat.reduceSub,AE,AF,AX,AH,Au,AN];gi_wp2_with fail
 rw[Ql.o];clear Ql c1;refine PR Qo.o Qk.o rfl eg rfl (GI W0 l f G 147) (GI.own Qc.o (by have:=S.o;omega)) (GI.bel Qn.o) (λ_ _ h=>Qf.o _ _ h.1) Qm.o
  (NQ (λb v=>{ tmps:=#[.func (.yield l) #[] #[],I (some ⟨R,0,none⟩),I (some ⟨U,0,none⟩),I (some ⟨W0.heap.size,0,none⟩),I (some ⟨b,0,none⟩),.func (.func gf) #[] lb,v,B,B,B,B,B,B],defers:=[] }) w0.heap.size) (λx a=>NQ.own x a) ?assign ?body ?done
 case assign=>
  intro l1 v x W K he d p;obtain⟨A,a,l2,c,Q,t,z,u,rfl⟩:=Jj.form (show Jj W v x from he);have hA:Bl W (W.alloc (M #[L A,C a l2 c,L Q,C t z u] 37)):=Ba W _;have X:=Y (p _ (W.alloc (M #[L A,C a l2 c,L Q,C t z u] 37)) hA ⟨W.heap.size,A,Q,a,t,l2,c,z,u,d.size,JF.new W _ _ _ _ _,Jj.below he hA,rfl⟩);clear p d he hA;gi_wp2;exact X.o
 case body=>
  rintro l1 a' x H W r ⟨b,A,Q,a,t,l2,c,z,u,bc,aq,hx,rfl⟩ ah bf;have hW:=Qf.o _ _ r.1;obtain⟨Qs,Qw,Qp,Qr,Qt,HN,Qu⟩:=Ky (λ(V:E) (d:Bl W V)=>(boxed_below r.2 d).cell) (λ(V:E) (d:Bl W V)=>(boxed_below (boxed_below Qg.o hW) d).cell) (λ(V:E) (d:Bl W V)=>aq.below d) (λ(V:E) (d:Bl W V)=>HP.o V _ x (Bt hW d) (hx.below d) (ah.subset Z)) (λ(n9:Nat) (V:E) (d:Bl W V)=>Qi.o n9 (H.map f) (f x) (P .i64 (f x)) V (Qn.o _ _ _ r.1 d) rfl (by have:=ah.map f;rwa[List.map_append]at this) (Am (by have:=S.o;omega) d.size)) (λ(V V':E) (d:Bl W V) (h:G (H.map f++[f x]) V'/\V.heap.size<=V'.heap.size/\∀(k:Nat) (o:Obj),W0.heap.size<=k->V.heap[k]?=some o->V'.heap[k]?=some o)=>show Kb W0 W l f G 147 (H++[x]) V' from⟨⟨by rw[List.map_append];exact h.1,h.2.2 _ _ (Aa _) (boxed_below r.2 d)⟩,Am d.size h.2.1,λk o hk ho=>h.2.2 k o hk ((d.block k (Ab.1 ho).1).trans ho)⟩) (show W0.heap.size<=s.heap.size by have:=S.o;omega);clear r bc aq hx ah bf hW Qo HP Qc Qf Qi Qm Qk S Qg;dsimp only;gi_wp2_with fail
  refine J4 Qq [[],[],[],[1,2],[0,3,3],[4]] (by kernel_rfl) DO
   (λD T V=>∃(td te tg ta tb tc:N),T={ tmps:=#[.func (.yield l) #[] #[],I (some ⟨R,0,none⟩),I (some ⟨U,0,none⟩),I (some ⟨W0.heap.size,0,none⟩),I (some ⟨b,0,none⟩),.func (.func gf) #[] lb,.agg #[L A,C a l2 c,L Q,C t z u],td,te,tg,ta,tb,tc],defers:=[] }/\Hid ((D 0=true->td=.func (.yield l) #[] #[])/\(D 1=true->te=.func (.func pf) #[] pb)/\(D 2=true->tg=.agg #[L A,C a l2 c,L Q,C t z u])/\(D 3=true->ta=P .i64 (f x))/\(D 4=true->tb=L true)/\(D 5=true->tc=L false))/\Hid ((D 4=false->Bl W V)/\(D 4=true->Kb W0 W l f G 147 (H++[x]) V)))
   ⟨_,_,_,_,_,_,rfl,Y Z,Y ⟨λ_=>(BA _ W).drew,Z⟩⟩ ?step ?fin
  case step=>
   rintro D T V i ds ad hi m ax ⟨td,te,tg,ta,tb,tc,rfl,g,j⟩;have bh:i<6:=(Ad.1 hi).1;have q:i<5->D 4=false:=λbi=>by
    cases h:D 4 with
    |false=>rfl
    |true=>
     exfalso
     have h3:=ad 4 _ rfl h 3 Z;have h0:=ad 4 _ rfl h 0 Z;have h1:=ad 3 _ rfl h3 1 Z;have h2:=ad 3 _ rfl h3 2 Z;obtain rfl|rfl|rfl|rfl|rfl:=MP i O
     all_goals simp_all
   obtain rfl|rfl|rfl|rfl|rfl|rfl:=OE i O
   all_goals
    simp only[Aj,Ag,An]at hi;subst hi
   . have d:=j.o.1 (q O);have e0:=Qs.o V d;clear m;refine Dh ?_;exact⟨(Dm g),Y ⟨λh=>j.o.1 (by simpa using h),λh=>j.o.2 (by simpa using h)⟩⟩
   . have d:=j.o.1 (q O);have e0:=Qw.o V d;clear m;refine Dh ?_;exact⟨(Ds g),Y ⟨λh=>j.o.1 (by simpa using h),λh=>j.o.2 (by simpa using h)⟩⟩
   . have d:=j.o.1 (q O);have n0:=Qp.o V d;obtain⟨e0,e1,e2,e3⟩:=n0.cq;clear n0;clear m;refine Dh ?_;exact⟨(Dj g),Y ⟨λh=>j.o.1 (by simpa using h),λh=>j.o.2 (by simpa using h)⟩⟩
   . have d:=j.o.1 (q O);have Qv:=q O;obtain rfl:=g.o.2.1 (m 1 Z);obtain rfl:=g.o.2.2.1 (m 2 Z);clear m q;refine BN rfl λK p=>?_;go_simp;refine⟨trivial,λh=>by simp[Fence.wide]at h,(Bh l1 ((BI (n:=_)).2 (Qr.o V d))).mono ?_⟩;rintro e w5 ⟨rfl,az⟩;exact p _ _ ⟨_,_,_,_,_,_,rfl,Y ⟨g.o.1,λ_=>rfl,λ_=>rfl,λ_=>rfl,g.o.2.2.2.2.1,g.o.2.2.2.2.2⟩,Y ⟨λ_=>Bt d az,λh=>by simp[Qv]at h⟩⟩
   . have d:=j.o.1 ax;obtain rfl:=g.o.1 (m 0 Z);obtain rfl:=g.o.2.2.2.1 (m 3 Z);clear m q;obtain⟨fn,tm,bg,bd,hy,ay⟩:=Qt.o (n-1-1-1) V d;refine BN rfl λK p=>?_;go_simp;refine⟨λh=>by simp[Fence.wide]at h,RoundIn.mono ay ?_⟩;rintro e w5 ⟨rfl,h5⟩;exact p _ _ ⟨_,_,_,_,_,_,rfl,Y ⟨λ_=>rfl,g.o.2.1,g.o.2.2.1,λ_=>rfl,λ_=>rfl,g.o.2.2.2.2.2⟩,Y ⟨λh=>by simp at h,λ_=>HN.o V w5 d h5⟩⟩
   . obtain rfl:=g.o.2.2.2.2.1 (m 4 Z);clear m q;refine Dh ?_;exact⟨Y ⟨g.o.1,g.o.2.1,g.o.2.2.1,g.o.2.2.2.1,λ_=>rfl,λ_=>rfl⟩,Y ⟨λh=>j.o.1 (by simpa using h),λh=>j.o.2 (by simpa using h)⟩⟩
  case fin=>
   rintro D T V ae ⟨td,te,tg,ta,tb,tc,rfl,g,j⟩;obtain rfl:=g.o.2.2.2.2.2 (ae 5 DO);have HE:=Y (show ∀T,LB s.heap.size (GI W0 l f G 147) (H++[x]) W .normal T V from λ_=>by
    have h:=j.o.2 (ae 4 DO);exact⟨h.1,h.2.1,λk o hk ho=>h.2.2 k o (Am Qu.o hk) ho⟩)
   clear g j ae;gi_wp2;exact HE.o _
 case done=>
  intro D W hD r p;obtain⟨X,HI,HD⟩:=Df p r (show W0.heap.size<=D by have:=S.o;omega);clear r hD p;gi_wp2_with fail
  refine⟨Z,.inl ⟨_,_,rfl,BX X.o,?_⟩⟩;refine⟨_,results_none rfl _ _ _,⟨_,rfl⟩,?_⟩;exact Qc.o.putObj _ HI.o.1 HD.o X.o rfl
