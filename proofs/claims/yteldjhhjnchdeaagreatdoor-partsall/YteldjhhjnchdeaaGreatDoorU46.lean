import Derived.Test.YteldjhhjnchdeaaGreatDoorU45
open Go.Value renaming slice->C,pointer->L,agg->R,int->H
open Go renaming World->F,Value->N
open Go.Proofs.Tryz renaming prog->G
open Go.Obj renaming cells->E
set_option maxRecDepth 100000
set_option maxHeartbeats 16000000
namespace Go.Proofs.YteldjhhjnchdeaaGreatDoor
namespace M3
open Go.RowKit Go.Shelf
attribute [local go_sem] Oper.semAt_some
variable{a p ps q:List Rat}{B K j l:Nat}{f:Option Addr}{v:N}{W w:F}
theorem iA(n:Nat)(a d:Option Addr)(c b g f:Nat)(w:F):
 CallsIn Fence.wide n G 25 #[R #[C a c b],R #[C d g f]] w λe i=>e=.returned (.func (.func 55) #[] #[L (some ⟨w.heap.size,0,none⟩),L (some ⟨w.heap.size+1,0,none⟩)])/\i=(w.alloc (E #[C a c b] 25)).alloc (E #[C d g f] 25):=by
 refine B0 Tryz.func25 rfl trivial ?_ rfl;simp only[Tryz.ntmps25,Ao,An,AG,Nat.reduceAdd,Nat.reduceSub,AK,AM,A3,AQ,Ap,AB];gi_wp2;go_ret;exact⟨rfl,rfl⟩
def Tm(B:Nat)(I:List (List Rat)->F->Prop)(H:List (List Rat))(W:F):Exit->Act->F->Prop
 |.normal,_,W'=>I H W'/\W.heap.size<=W'.heap.size/\(∀(k:Nat) (o:Obj),B<=k->W.heap[k]?=some o->W'.heap[k]?=some o)/\∀v ps,Jh W v ps->Jh W' v ps
 |_,_,_=>False
theorem Tn{W':F}{row:Option Nat}(a:W.grownBy W' row)(b:∀r,row=some r->∃o:Obj,W.heap[r]?=some o/\o.isCells=false)(h:Jh W v ps):Jh W' v ps:=by
 obtain⟨u,e,h⟩:=h;exact⟨u,e,KS a b h⟩
theorem NX{o a:Obj}(hl:W.heap[l]?=some o)(b:o.isCells=false)(h:Jh W v ps):Jh (W.putObj l a) v ps:=
 Tn (BV W l a) (λr e=>by cases e;exact⟨o,hl,b⟩) h
theorem iB{g:Operand}{ps:Array Tmp}{assign body:Code}{Q:Exit->Act->F->Prop}{a:Act}{n:Nat}
(h1:2<=n){U:Nat}{qa:Option Addr}{pl pc ql qc:Nat}(bc:ChOk K p q)(an:Dt w j f pl pc)(ap:Dt w U qa ql qc)(ip:Jh w (R #[C f pl pc]) p)(iq:Jh w (R #[C qa ql qc]) q)
(hg:a.eval g=.func (.func 55) #[] #[L (some ⟨j,0,none⟩),L (some ⟨U,0,none⟩)])(eg:∀args w,(callFunc 55 args).run G w=.ok (.enter 55 args) w)(bf:ps.size=1)
(I:List (List Rat)->F->Prop)(hI:OwnFrom w.heap.size I)(af:GB I)(aj:GS w.heap.size I)(h0:I [] w)(a₁:N->Nat->Act)
(ak:∀(l:Nat) (x:Option Addr) (y s:Nat) (W:F) (K:Act->F->Prop),K (a₁ (C x y s) W.heap.size) (W.alloc (E #[C x y s] 25))->
  assign.wpIn (Fence.wide.inRound l) (n-1-1) G (Exit.then K λ_ _ _=>False) { tmps:=(ps.zip #[R #[C x y s]]).foldl (λt (p,v)=>t.setIfInBounds p v) a.tmps,defers:=[] } W)
(am:∀(l b:Nat) (x:Option Addr) (y s:Nat) (r:List Rat) (H:List (List Rat)) (W:F),I H W->w.heap.size+1<b->Dt W b x y s->Jh W (R #[C x y s]) r->
  body.wpIn (Fence.wide.inRound l) (n-1-1) G (Tm w.heap.size I (H++[r]) W) (a₁ (C x y s) b) W)
(aw:∀(D:Nat) (W:F) (H:List (List Rat)) (r:List Rat),w.heap.size<=D->I (H++[r]) W->Lt p q=H++[r]->Chn p q (De K p q) r []->W.heap[D]?=some (.deferred (some []))->Q .normal { a with defers:={ target:=.collected D,args:=#[] }::a.defers } W):
 (Code.rangeFunc g ps assign body).wpIn Fence.wide n G Q a w:=by
 refine wpIn_rangeFunc λfn ay=>?_;rw[show Fence.wide.round=none from rfl];obtain⟨rc,M⟩:∃rc:LoopState->Option Code->Loop,rc=λst pe=>{ state:=st,pending:=pe,fn,tmps:=a.tmps,params:=ps,assign,body,defers:=w.heap.size }:=⟨_,rfl⟩;obtain⟨V,S⟩:=ex ((w.alloc (.deferred (some []))).alloc (.loop (rc .ready none)));have vL:V.heap[w.heap.size+1]?=some (.loop (rc .ready none)):=by
  rw[<-S];have:=BE (w.alloc (.deferred (some []))) (.loop (rc .ready none));rwa[A1]at this
 have vD:V.heap[w.heap.size]?=some (.deferred (some [])):=by
  rw[<-S];exact(Bi _ _ _ Y).trans (BE w _)
 have vI:I [] V:=by rw[<-S];exact hI.alloc _ (hI.alloc _ h0)
 have Qe:Bl w V:=by rw[<-S];exact(Ba w _).alloc (by rw[A1];omega) _
 have bk:V.heap.size=w.heap.size+2:=by rw[<-S];simp
 refine⟨w.heap.size+1,[{ target:=.collected w.heap.size,args:=#[] }],V,{ target:=.fn (.func 55) #[L (some ⟨j,0,none⟩),L (some ⟨U,0,none⟩)],args:=#[.func (.yield (w.heap.size+1)) #[] #[]] },V,55,
  #[.func (.yield (w.heap.size+1)) #[] #[]]++#[L (some ⟨j,0,none⟩),L (some ⟨U,0,none⟩)],V,?_,?_,?_,?_,λ_=>by omega,?_⟩
 . rw[<-S,M];exact run_enterLoop_outer _ _ _ _ _
 . simp only[resolve,hg];simp[go_sem]
 . intro f' ah;simp[Target.leads]at ah;subst ah;exact trivial
 . simp[invoke,go_sem,eg]
 refine(hO K (n-1) O j U f qa pl pc ql qc p q bc (w.heap.size+1) (w.heap.size+2)
  (λH W=>I H W/\W.heap[w.heap.size+1]?=some (.loop (rc .ready none))/\W.heap[w.heap.size]?=some (.deferred (some [])))
  V O (an.below Qe) (ap.below Qe) (ip.below Qe) (iq.below Qe) ?_ ?_ ?_ ⟨vI,vL,vD⟩).mono ?_
 . rintro H W W' ⟨A,hl,d⟩ hb;exact⟨af _ _ _ A hb,(hb.block _ (Ab.1 hl).1).trans hl,(hb.block _ (Ab.1 d).1).trans d⟩
 . rintro H W B x y s u hB hb ⟨A,hl,d⟩;exact⟨aj _ _ _ _ _ _ _ O hb A,(BD W ⟨B,0,none⟩ u _ (by show w.heap.size+1≠B;omega)).trans hl,(BD W ⟨B,0,none⟩ u _ (by show w.heap.size≠B;omega)).trans d⟩
 . rintro H W B4 B5 m o c4 a5 l5 c5 p4 q5 bi bj bg bh ⟨A,hl,d⟩ h4 h5 i4 i5;have Qf:w.heap.size+1<W.heap.size:=(Ab.1 hl).1;have hy:=run_yield (P:=G) (args:=#[R #[C m o c4]]) hl (by rw[M];exact bf.symm);rw[M]at hy;obtain⟨i,ae⟩:=ex (W.alloc (E #[C m o c4] 25));have z:Bl W i:=by rw[<-ae];exact Ba W _
   have Qc:i.heap[w.heap.size+1]?=some (.loop (rc .ready none)):=(z.block _ Qf).trans hl;have Ql:i.heap[w.heap.size]?=some (.deferred (some [])):=(z.block _ O).trans d;have Qj:I H i:=af _ _ _ A z;have Qh:Dt i W.heap.size m o c4:=by rw[<-ae];exact BM W 25 (C m o c4)
   refine⟨fn,_,assign,body,hy,roundIn_of_wpIn ay (ak _ _ _ _ W _ ?_)⟩;rw[ae];refine⟨_,run_beginRound Qc (by rw[M]),?_⟩;obtain⟨bx,aq⟩:=ex (W.heap.size);have Qu:=h4.below z;have Qr:=h5.below z;have Qv:=i4.below z;have Qn:=i5.below z;rw[aq]at Qh Qf bg bh ⊢;have Qg:w.heap.size+1<i.heap.size:=(Ab.1 Qc).1;obtain⟨c,T⟩:=ex (i.putObj (w.heap.size+1) (.loop { rc .ready none with state:=.busy }));rw[T];have Qo:c.heap[w.heap.size+1]?=some (.loop { rc .ready none with state:=.busy }):=by rw[<-T];exact Bk Qg
   have Qd:∀k,k≠w.heap.size+1->c.heap[k]?=i.heap[k]?:=λk d=>by rw[<-T];exact BT O
   have Qt:Dt c bx m o c4:=(Qd bx O).trans Qh;have Qk:c.heap[w.heap.size]?=some (.deferred (some [])):=(Qd _ O).trans Ql;have Qp:I H c:=by rw[<-T];exact hI.putObj _ Qj O Qc rfl
   have Qq:Dt c B4 m o c4:=(Qd B4 O).trans Qu;have Qw:Dt c B5 a5 l5 c5:=(Qd B5 O).trans Qr;have Qi:Jh c (R #[C m o c4]) p4:=by rw[<-T];exact NX Qc rfl Qv
   have Qs:Jh c (R #[C a5 l5 c5]) q5:=by rw[<-T];exact NX Qc rfl Qn
   refine wpIn_mono (am _ bx m o c4 p4 H c Qp Qf Qt Qi) λe a3 W3 hp=>?_;cases e with
   |normal=>
    obtain⟨az,bm,ad,ai⟩:=hp;have X:=ad _ _ O Qo;have hr:=run_endRound (P:=G) none X;have Qa:∀k,k≠w.heap.size+1->(W3.putObj (w.heap.size+1) (.loop (rc .ready none))).heap[k]?=W3.heap[k]?:=λk d=>BT O;have Qm:(Instr.endRound (w.heap.size+1) none).run G W3=.ok (.bool true) (W3.putObj (w.heap.size+1) (.loop (rc .ready none))):=by
     rw[M]at hr ⊢;exact hr
    exact⟨_,_,Qm,rfl,⟨hI.putObj _ az O X rfl,Bk (Ab.1 X).1,(Qa _ O).trans (ad _ _ (Aa _) Qk)⟩,
     (Qa _ O).trans (ad _ _ O Qq),(Qa _ O).trans (ad _ _ O Qw),NX X rfl (ai _ _ Qi),NX X rfl (ai _ _ Qs)⟩
   |ret=>exact hp.elim
   |exit id=>exact hp.elim
   |goto t=>exact hp.elim
   |panic ch=>exact hp.elim
   |outgrown=>exact hp.elim
 . rintro e c ⟨⟨v,rfl⟩,H,r,⟨A,hl,d⟩,hc,hn⟩;exact⟨none,_,by have:=run_endLoop (P:=G) hl (by rw[M];simp);rw[M]at this;exact this,aw _ _ H r (Aa _) (hI.putObj _ A O hl rfl) hc hn ((BT O).trans d)⟩
theorem Mem.setFar{V:F}{bs:List (Option (Nat × Dat))}(M:Mem w V bs)(f:w.heap.size<=B){a:Option Addr}{c:Nat}(g:Dt V B a l c)(j:∀(i:Nat) B' d,bs[i]?=some (some (B',d))->B'≠B)(u:N):Mem w (V.setCell ⟨B,0,Option.none⟩ u) bs:=by
 refine⟨λi B' d h=>?_,M.2.1,M.2.2.setCell (p:=⟨B,0,Option.none⟩) f u⟩;obtain⟨⟨cs,b,e⟩,k⟩:=M.1 i B' d h;exact⟨⟨cs,b.far (p:=⟨B,0,Option.none⟩) (j i B' d h) u,e.set1 g rfl u⟩,k⟩
def Ie(w:F)(a d:Option Addr)(c b f e:Nat)(H:List (List Rat)):List (Option (Nat × Dat)):=
 [some (w.heap.size,.cell 25 (C a c b)),some (w.heap.size+1,.cell 25 (C d f e)),some (w.heap.size+1+1,.cell 25 (C none 0 0)),some (w.heap.size+1+1+1,.poly (H.getLastD []))]
theorem iC{b:Option Addr}{a g c:Nat}{H:List (List Rat)}{i:Nat}{d:Dat}(e:(Ie w f b j a g c H)[i]?=some (some (B,d))):B<=w.heap.size+1+1+1:=by
 unfold Ie at e;rcases i with _|_|_|_|i<;>simp at e<;>omega
theorem PQ(K:Nat)(va vb:N)(p q:List Rat)(w:F)(ha:Jh w va p)(y:Jh w vb q)(af:ChOk K p q):
 Calls G 8 #[va,vb] w λe U=>∃u,e=.returned u/\Jh U u (JC p q)/\Bl w U:=by
 obtain⟨f,j,g,rfl⟩:=ha.form;obtain⟨m,t,s,rfl⟩:=y.form;have M0:Mem w _ _:=((((Mem.nil w).push (.cell 25 (C f j g)) (cs:=#[C f j g]) ⟨rfl,rfl⟩).push (.cell 25 (C m t s)) (cs:=#[C m t s]) ⟨rfl,rfl⟩).push (.cell 25 (C none 0 0)) (cs:=#[C none 0 0]) ⟨rfl,rfl⟩).push (.poly []) (cs:=#[C none 0 0]) (Ic _);simp only[A1]at M0;obtain⟨W0,ad⟩:=ex ((((w.alloc (E #[C f j g] 25)).alloc (E #[C m t s] 25)).alloc (E #[C none 0 0] 25)).alloc (E #[C none 0 0] 25));have M1:Mem w W0 (Ie w f m j g t s []):=by rw[<-ad];exact M0
 have hN:W0.heap.size=w.heap.size+1+1+1+1:=by rw[<-ad];simp
 obtain⟨Qe,Qg,HN,HP,HQ,Qm⟩:=Kd ad M1 hN (λ(V:F) (hB:Bl w V)=>ha.below hB) (λ(V:F) (hB:Bl w V)=>y.below hB) af;have Qj:=J (λ(V:F) (x:N) (r:List Rat) (hx:Jh V x r) (hc:Chn p q (De K p q) r [])=>show Calls G 26 #[x] V λe U=>∃u,e=.returned u/\Jh U u (JC p q)/\Bl V U by
  have Qb:=af.bd;have h1:=Tk x r V hx (DZ.of λi=>Sq.of (hc.wa.smq Qb.2.2.2 i) Qb.1) hc.ta (λi=>by
   have h2:=Ln.sqs hc.ta hc.wa.ln Qb.2.2.2 i;unfold Jt at h2;rw[Yv,Fi,FF,<-Fi]at h2;exact Sq.of h2 Qb.1)
  rw[<-hc.gc,PH];exact h1)
 clear ha y af M0 M1 ad hN;refine(BJ (n:=3)).1 ?_;refine BU Tryz.func8 rfl trivial ?_ rfl;simp only[Tryz.ntmps8,Ao,An,AG,Nat.reduceAdd,Nat.reduceSub,AK,AM,A3,AQ,Ap,AB];gi_wp2_with fail
 rw[Qe.o];refine⟨trivial,?_⟩;refine(iA _ _ _ _ _ _ _ _).mono ?_;rintro e U ⟨rfl,rfl⟩;obtain⟨z,T⟩:=ex ((W0.alloc (E #[C f j g] 25)).alloc (E #[C m t s] 25));have Qi:Bl W0 z:=by rw[<-T];exact(Ba W0 _).alloc (by rw[A1];omega) _
 have nP:Dt z W0.heap.size f j g:=by rw[<-T];exact(BM W0 25 (C f j g)).alloc _
 have nQ:Dt z (W0.heap.size+1) m t s:=by
  rw[<-T];have:=BM (W0.alloc (E #[C f j g] 25)) 25 (C m t s);rwa[A1]at this
 have M2:=Mem.below Qg.o Qi;have Qf:z.heap.size=w.heap.size+6:=by rw[<-T];simp[HN.o]
 rw[T,HN.o];rw[HN.o]at nP nQ;obtain⟨Qc,Ql,Qn,S⟩:=D9 M2 nP nQ Qf;clear M2 nP nQ Qf Qi T Qe HN Qg;gi_wp2_with fail
 refine iB O Qm.o Ql.o Qn.o (HP.o z Qc.o.2.2) (HQ.o z Qc.o.2.2) rfl (DF Tryz.func55 (by kernel_rfl) rfl) rfl
  (λH W=>Mem w W (Ie w f m j g t s H)) (λH W W' row M hg hr=>Mem.own M hg λr e=>⟨by have:=(hr r e).1;have:=S.o;omega,(hr r e).2⟩) (λH W W' M y=>Mem.below M y)
  (λH W B a l c u hB y M=>Mem.setFar M (by have:=S.o;omega) y (λi B' d e=>by have:=iC e;have:=S.o;omega) u) Qc.o
  (λv b=>{ tmps:=#[R #[C f j g],R #[C m t s],L (some ⟨w.heap.size,0,none⟩),L (some ⟨w.heap.size+1,0,none⟩),L (some ⟨w.heap.size+1+1,0,none⟩),L (some ⟨w.heap.size+1+1+1,0,none⟩),L (some ⟨b,0,none⟩),R #[C f j g],R #[C m t s],.func (.func 55) #[] #[L (some ⟨w.heap.size+1+1+1+1,0,none⟩),L (some ⟨w.heap.size+1+1+1+1+1,0,none⟩)],R #[v],undef,undef,undef],defers:=[] }) ?assign ?body ?done
 case assign=>
  intro l x xl xc W K hK;gi_wp2;exact hK
 case body=>
  intro l b x xl xc r H W M y ai hr;obtain⟨ya,yl,yc,Q,r3⟩:=Mem.poly2 M (i:=3) rfl;have e3:=Q.cell;have f3:=Q.frozen;have eb:=ai.cell;have HH:=J (show ∀ah,Tm z.heap.size (λH W=>Mem w W (Ie w f m j g t s H)) (H++[r]) W .normal ah (W.setCell ⟨w.heap.size+1+1+1,0,none⟩ (C x xl xc))from λah=>by
   refine⟨?_,?_,λk o hk ho=>?_,λv ps h=>h.setB Q⟩
   . have h4:=Mem.putPoly M (i:=3) rfl hr;show Mem w _ (Ie w f m j g t s (H++[r]));unfold Ie at h4 ⊢;rw[show(H++[r]).getLastD []=r by simp];exact h4
   . rw[World.size_setCell];exact Aa _
   . exact(BD W ⟨w.heap.size+1+1+1,0,none⟩ _ k (by show k≠w.heap.size+1+1+1;have:=S.o;omega)).trans ho)
  clear M y ai hr Q r3;gi_wp2;exact HH.o _
 case done=>
  intro D W H r hD M am aj hK;have Qo:w.heap.size<=D:=by have:=S.o;omega
  have M:Mem w W [some (w.heap.size,.cell 25 (C f j g)),some (w.heap.size+1,.cell 25 (C m t s)),some (w.heap.size+1+1,.cell 25 (C none 0 0)),some (w.heap.size+1+1+1,.poly r)]:=by
   have h4:Mem w W (Ie w f m j g t s (H++[r])):=M;unfold Ie at h4;rwa[show(H++[r]).getLastD []=r by simp]at h4
  obtain⟨ya,yl,yc,Q,r3⟩:=Mem.poly2 M (i:=3) rfl;have e3:=Q.cell;have n2:=(Mem.cell M (i:=2) rfl).1;obtain⟨HC,Qh,HK⟩:=Di (Qj.o W _ r r3 aj) M.2.2 hK;clear M am aj hK r3 Q Qj;gi_wp2_with(refine⟨trivial,?_⟩;gi_at_call 26;refine((BJ (n:=_)).2 HC.o).mono ?_;clear HC;rintro e X ⟨u5,rfl,ak,ae⟩;obtain⟨A,P,I,rfl⟩:=ak.form;have n5:=boxed_below n2 ae;have x0:=n5.cell;have x1:=n5.frozen)
  have Qd:(X.setCell ⟨w.heap.size+1+1,0,none⟩ (C A P I)).heap[D]?=some (.deferred (some [])):=by
   rw[BD X ⟨w.heap.size+1+1,0,none⟩ _ D (by show D≠w.heap.size+1+1;have:=S.o;omega)];exact(ae.block D (Ab.1 HK.o).1).trans HK.o
  refine⟨Y,.inl ⟨_,_,rfl,Bb Qd,?_⟩⟩;have q:Dt (X.setCell ⟨w.heap.size+1+1,0,none⟩ (C A P I)) (w.heap.size+1+1) A P I:=Dt.put (show Dt X (w.heap.size+1+1) none 0 0 from n5);have hg:=BV (X.setCell ⟨w.heap.size+1+1,0,none⟩ (C A P I)) D (.deferred none);have Qk:∀r,some D=some r->∃o:Obj,(X.setCell ⟨w.heap.size+1+1,0,none⟩ (C A P I)).heap[r]?=some o/\o.isCells=false:=λr e=>by cases e;exact⟨_,Qd,rfl⟩
  have q2:Dt _ (w.heap.size+1+1) A P I:=XI hg Qk q;have g0:=q2.cell;refine⟨R #[C A P I],by simp[results,Tryz.results8,go_sem,g0],_,rfl,?_,?_⟩
  . exact Tn hg Qk (ak.setB n5)
  . exact((Bt Qh.o ae).setCell (p:=⟨w.heap.size+1+1,0,none⟩) (by show w.heap.size<=w.heap.size+1+1;omega) _).trans (DO (w:=w) (Aa _) _ D _ _ Qo Qd rfl rfl)
def K8(w V:F)(a:N)(ps:List Rat):Prop:=RowK false V a ps/\Bl w V
theorem K8.below{w V V':F}{b:N}{ps:List Rat}(h:K8 w V b ps)(a:Bl V V'):K8 w V' b ps:=⟨h.1.below a,Bt h.2 a⟩
theorem iD(c:Rat):((1:Int):Rat)/c=1/c:=rfl
theorem PR(va:N)(ps:List Rat)(w:F)(o:RowK false w va ps)(ah:Jc ps=ps)(ae:DZ ps)(af:ps≠[]->Sq (1/cf ps (ps.length-1)))(ay:ps.length<1099511627776):
 Calls G 40 #[va] w λe w'=>∃u,e=.returned u/\RowK false w' u (Jt ps)/\Bl w w':=by
 have Qi:Tryz.prog.follows .mixedOrders=true:=by kernel_rfl
 obtain⟨a,la,ca,rfl⟩:=o.form;obtain⟨aw,az,bc,bi,s,t,aa,bb,ll,cc,kk,dd,hc⟩:=o.formsF;by_cases j:ps=[]
 . have Qf:la=0:=by rw[aw,j];rfl
   have HA:=J (show RowK false w (C a la ca) (Jt ps)by rw[j]at o ⊢;exact o);clear o hc ae af ah j;go_enter Tryz.func40,Tryz.ntmps40
   go_wp2_with fail
   go_ret;exact⟨_,rfl,HA.o,BB _ _⟩
 . have Qf:¬(la:Int)=0:=by have:=Ah.2 j;omega
   obtain⟨m,hm⟩:=ex (la-1:Nat);have bj:(la:Int)-1=(m:Int):=O
   have bk:IntKind.i64.wrap (m:Int)=(m:Int):=by rw[BS];omega
   have bm:(m:Int)<(la:Int):=O
   have Q:ps.length-1=m:=O
   obtain⟨aq,g,rfl,I,ai,aj,ak,am⟩:=hc m O;have Qj:=J (show ∀V,Bl w V->(V.cell? ⟨g,m*4,none⟩=some (C (aa m) (ll m) (cc m))/\V.cell? ⟨g,m*4+1,none⟩=some (.bool (s m))/\V.cell? ⟨g,m*4+2,none⟩=some (C (bb m) (kk m) (dd m))/\V.cell? ⟨g,m*4+3,none⟩=some (.bool (t m)))/\Js V (R #[C (aa m) (ll m) (cc m),.bool (s m),C (bb m) (kk m) (dd m),.bool (t m)]) (cf ps m)from λV B=>by
    exact⟨⟨(B.cell (p:=⟨g,_,none⟩) I).trans ai,(B.cell (p:=⟨g,_,none⟩) I).trans aj,(B.cell (p:=⟨g,_,none⟩) I).trans ak,(B.cell (p:=⟨g,_,none⟩) I).trans am⟩,aq.below B⟩)
   obtain⟨Qg,Qe,Qk,Qd,Qh⟩:=Gp (show cf ps m≠0 by rw[<-Q];exact Jv ah j) (show Sq (1/cf ps m)by rw[<-Q];exact af j) (show Jc (YA (1/cf ps m) ps)=Jt ps by unfold Jt Df;rw[Q]) ae ay;have S:K8 w w.drew (C (some ⟨g,0,none⟩) la ca) ps:=K8.below ⟨o,BB _ _⟩ ((BB _ w).drew);have HX:=J S;clear o hc aq I ai aj ak am ae af ah j Q aw az bc ay S;go_enter Tryz.func40,Tryz.ntmps40
   go_upto_region 3 with fail
   obtain⟨bz,ap⟩:=ex (((la:Int)==0));rw[ap];clear ap;have S:=HX.o;refine Jl Qi [[],[],[],[],[3],[4],[2,5],[6],[1,7,1],[0,8,8],[9,9,0,1,2,3,4,5,6,7,8,9]] (by kernel_rfl) DP
    (λD ad V=>∃(tj tk tl ta tb T U W tf X P:N),ad={ tmps:=#[C (some ⟨g,0,none⟩) la ca,undef,P,C (some ⟨g,0,none⟩) la ca,H .i64 ↑la,.bool bz,undef,tj,tk,tl,ta,tb,T,U,W,tf,X],defers:=[] }/\Hid ((D 0=true->tj=C (some ⟨g,0,none⟩) la ca)/\(D 1=true->Js V tk ((1:Int):Rat))/\(D 2=true->tl=C (some ⟨g,0,none⟩) la ca)/\(D 3=true->ta=C (some ⟨g,0,none⟩) la ca)/\(D 4=true->tb=H .i64 (la:Int))/\(D 5=true->T=H .i64 (m:Int))/\(D 6=true->U=L (some ⟨g,m*4,none⟩))/\(D 7=true->Js V W (cf ps m))/\(D 8=true->Js V tf (1/cf ps m))/\(D 9=true->RowK false V X (Jt ps))/\(D 10=true->RowK false V P (Jt ps)))/\Hid (K8 w V (C (some ⟨g,0,none⟩) la ca) ps))
    (E8 ⟨_,_,_,rfl,J ⟨Y,Y,Y,Y,Y,Y,Y,Y,Y,Y,Y⟩,J S⟩) ?step1 ?fin1
   case step1=>
    rintro D ad V i ds bg hi d bf ⟨tj,tk,tl,ta,tb,T,U,W,tf,X,P,rfl,c,b⟩;have bh:i<11:=(Ac.1 hi).1;obtain rfl|rfl|rfl|rfl|rfl|rfl|rfl|rfl|rfl|rfl|rfl:=Ex i O
    all_goals
     simp only[Af,Ae,Ag]at hi;subst hi
    . have l:=b.o;clear d;refine DS ?_;exact⟨(Dh c),J (b.o)⟩
    . have l:=b.o;clear d;have n:=J (KT 1 O O V);refine Jb rfl rfl λK hK=>?_;go_simp;go_wp2_with(go_at_call 42;refine n.o.mono ?_;rintro e w5 ⟨v5,rfl,M,f⟩)
      obtain⟨G0,_,r,v,x,y,z,A,G8,G9,q⟩:=c.o;exact E8 ⟨_,_,_,rfl,J ⟨G0,λ_=>M,r,v,x,y,z,λh=>(A h).below f,λh=>(G8 h).below f,λh=>(G9 h).below f,λh=>(q h).below f⟩,J (b.o.below f)⟩
    . have l:=b.o;clear d;refine DS ?_;exact⟨(Dg c),J (b.o)⟩
    . have l:=b.o;clear d;refine DS ?_;exact⟨(Dl c),J (b.o)⟩
    . have l:=b.o;obtain rfl:=c.o.2.2.2.1 (d 3 Y);clear d;refine DS ?_;exact⟨(Dz (Dl c)),J (b.o)⟩
    . have l:=b.o;obtain rfl:=c.o.2.2.2.2.1 (d 4 Y);clear d;refine DS ?_;exact⟨(D0 (Dz c)),J (b.o)⟩
    . have l:=b.o;obtain rfl:=c.o.2.2.1 (d 2 Y);obtain rfl:=Dq c (d 5 Y);clear d;refine DS ?_;exact⟨(Dx (D0 (Dg c))),J (b.o)⟩
    . have l:=b.o;obtain rfl:=Ds c (d 6 Y);obtain⟨⟨e0,e1,e2,e3⟩,hr⟩:=Qj.o V l.2;clear d;refine DS ?_;exact⟨(EC (Dx c) λ_=>hr),J (b.o)⟩
    . have l:=b.o;have j:=c.o.2.1 (d 1 Y);have h1:=Du c (d 7 Y);clear d;have n:=J (SW _ _ ((1:Int):Rat) (cf ps m) V j h1 (Sq.of (k:=1) ⟨Sm.one 1 O,Sm.one 1 O⟩ O) (Qd.o.at m) Qg.o);rw[iD]at n;clear j h1;refine Jb rfl rfl λK hK=>?_;go_simp;go_wp2_with(go_at_call 77;refine n.o.mono ?_;rintro e w5 ⟨v5,rfl,M,f⟩)
      obtain⟨G0,G1,r,v,x,y,z,A,_,G9,q⟩:=c.o;exact E8 ⟨_,_,_,rfl,J ⟨G0,λh=>(G1 h).below f,r,v,x,y,z,λh=>(A h).below f,λ_=>M,λh=>(G9 h).below f,λh=>(q h).below f⟩,J (b.o.below f)⟩
    . have l:=b.o;have j:=D5 c (d 8 Y);obtain rfl:=c.o.1 (d 0 Y);clear d;have n:=J (Sa _ _ ps (1/cf ps m) V l.1 j Qd.o Qe.o Qh.o);rw[Qk.o]at n;clear j;refine Jb rfl rfl λK hK=>?_;go_simp;go_wp2_with(go_at_call 76;refine n.o.mono ?_;rintro e w5 ⟨v5,rfl,M,f⟩)
      obtain⟨_,G1,r,v,x,y,z,A,G8,_,q⟩:=c.o;exact E8 ⟨_,_,_,rfl,J ⟨λ_=>rfl,λh=>(G1 h).below f,r,v,x,y,z,λh=>(A h).below f,λh=>(G8 h).below f,λ_=>M,λh=>(q h).below f⟩,J (b.o.below f)⟩
    . have l:=b.o;have j:=ED c (d 9 Y);clear d;refine DS ?_;exact⟨(II c λ_=>j),J (b.o)⟩
   case fin1=>
    rintro D ad V an ⟨tj,tk,tl,ta,tb,T,U,W,tf,X,P,rfl,c,b⟩;have h9:=c.o.2.2.2.2.2.2.2.2.2.2 (an 10 DP);have HH:=J (show RowK false V P (Jt ps)/\Bl w V from⟨h9,b.o.2⟩);clear c b an h9;go_wp2_with fail
    go_ret;exact⟨_,rfl,HH.o⟩
theorem Rhn.dvn{b:List Rat}(h:Rhn p q (De K p q) a b)(i:b≠[]):∃D E:Int,Dvn D E E (De K p q) (De K p q) a b:=by
 obtain⟨D,d1,e,f⟩:=h.ca;obtain⟨E,c,d,g⟩:=h.cb;exact⟨D,E,d1,e,f,c,d,g,c,d,by rw[h.mb i,Rat.divInt_self' c]⟩
theorem ChOk.fit(b:ChOk K p q)(f:a.length<=max p.length q.length):De K p q+a.length*(De K p q+1)+1+(2*De K p q+1)<=1000000:=by
 have c:(a.length+2)*(De K p q+1)<=(max p.length q.length+2)*(De K p q+1):=Ak _ O;have d:(a.length+2)*(De K p q+1)=a.length*(De K p q+1)+2*(De K p q+1):=AA _ _ _;have e:=b.le;omega
theorem To(K:Nat)(va vb:N)(p q:List Rat)(w:F)(ha:RowK false w va p)(S:RowK false w vb q)(c:ChOk K p q):
 Calls G 13 #[va,vb] w λe f=>∃u,e=.returned u/\RowK false f u (JC p q)/\Bl w f:=by
 obtain⟨A,hA⟩:=ex (De K p q);have s:=c.bd;have Qo:=c.ln;have mono:∀(r:List Rat),Jc r=r->(∃D:Int,D≠0/\Sm 1000000 D/\EF D 1000000 r)->r.length<=1000->∀(V:F) (x:N),RowK false V x r->Calls G 40 #[x] V λe f=>∃u,e=.returned u/\RowK false f u (Jt r)/\Bl V f:=λr tr hr hl V x k=>by
  obtain⟨D,d1,M,P⟩:=hr;exact PR x r V k tr (DZ.of λi=>Sq.of ((P i).smq d1 M) (Aa _)) (λj=>by
   rw[Fi,FF];exact Sq.of (((P _).smq d1 M).inv (Jv tr j)) (Aa _)) O
 have Qa:∀(r:List Rat),(∃D:Int,D≠0/\Sm K D/\EF D K r)->∃D:Int,D≠0/\Sm 1000000 D/\EF D 1000000 r:=λr h=>by
  obtain⟨D,d1,M,P⟩:=h;exact⟨D,d1,M.mono s.2.1,λi=>(P i).mono s.2.1⟩
 obtain⟨H1,H2,z,Qg⟩:=D9 (λ(V:F) (hB:Bl w V)=>mono p c.tp (Qa p c.cp) O V va (ha.below hB)) (λ(V:F) (hB:Bl w V)=>mono q c.tq (Qa q c.cq) O V vb (S.below hB)) (Rhn.start c.tp c.tq c.lp c.lq s.2.2.1) λ(a b:List Rat) (h:Rhn p q (De K p q) a b) (S:b≠[])=>Rhn.next c.tp c.tq c.lp c.lq s.2.2.1 h S;have Qk:=J (λ(a b:List Rat) (h:Rhn p q (De K p q) a b) (j:b≠[]) (V:F) (x y:N) (k:RowK false V x a) (hy:RowK false V y b)=>show Calls G 41 #[x,y] V λe f=>∃u v,e=.returned (.tuple #[u,v])/\RowK false f u (JM a b)/\RowK false f v (J7 a b)/\Bl V f by
  obtain⟨D,E,l⟩:=Rhn.dvn h j;have hf:=c.fit h.la;exact Ta _ (De K p q) x y a b V k hy (l.divS a.length O) l.start l.sq h.ta h.tb j (by have:=h.la;omega))
 have Qh:=J (λ(a b:List Rat) (h:Rhn p q (De K p q) a b) (j:b≠[]) (V:F) (x:N) (k:RowK false V x (J7 a b))=>mono (J7 a b) (Y7 _ _) (by
  obtain⟨D,E,l⟩:=Rhn.dvn h j;have hf:=c.fit h.la;obtain⟨m,hm⟩:=ex (a.length-(b.length-1));have ak:m*(De K p q+1)<=a.length*(De K p q+1):=Ak _ O;have Q:=l.den m;have h2:=(l.rem hm).1;exact⟨_,Q.1,Q.2.mono O,λi=>(h2 i).mono O⟩) (by have Q:=(YU a b h.tb j).2.1;have h2:=h.lb;omega) V x k)
 have Ql:=J (λ(a:List Rat) (h:Rhn p q (De K p q) a [])=>show a=JC p q by rw[<-h.gc,PH,h.ma]);have Qi:=J (λ(a b:List Rat) (h:Rhn p q (De K p q) a b)=>show b.length<=1000 by have:=h.lb;omega);rw[hA]at z Qg Qk Qh Ql Qi;clear mono Qa c s Qo ha S hA;go_enter Tryz.func13,Tryz.ntmps13
 have Qf:Bl w w:=BB _ _;go_wp2_with(first
  |(go_at_call 40;refine(H1.o _ Qf).mono ?_;clear H1;rintro e w1 ⟨u1,rfl,o,ah⟩;have Qd:=Bt Qf ah;clear Qf)
  |(go_at_call 40;refine(H2.o _ Qd).mono ?_;clear H2;rintro e w2 ⟨u2,rfl,t,ad⟩;have Qm:=Bt Qd ad;have o:=o.below ad))
 obtain⟨U,X,W,rfl⟩:=o.form;obtain⟨ya,g,yc,rfl⟩:=t.form;go_loopw [5,6,7,8] (λav bv _ _ wr=>∃(a b:List Rat) (U:Option Addr) (X W:Nat) (ya:Option Addr) (g yc:Nat),av=C U X W/\bv=C ya g yc/\g<=1000/\Hid (g=b.length)/\Hid (RowK false wr (C U X W) a)/\Hid (RowK false wr (C ya g yc) b)/\Hid (Rhn p q A a b)/\Hid (Bl w wr)) λ_ bv _ _ _=>lenOf bv
 case atStart=>exact⟨_,_,_,_,_,_,_,_,rfl,rfl,by have:=Qi.o _ _ z.o;have:=t.formsF.1;omega,J t.formsF.1,J o,J t,z,J Qm⟩
 case round=>
  clear o t ah ad Qd Qm z;obtain⟨a,b,U,X,W,ya,g,yc,rfl,rfl,am,B,HA,HB,n,HQ⟩:=hrel;by_cases d:b=[]
  . have Qn:¬(0:Int)<(g:Int):=by have:=B.o;rw[d]at this;simp at this;omega
    have Qq:=J (show a=JC p q from Ql.o a (by have:=n.o;rwa[d]at this));clear d;go_wp2_with fail
    go_ret;exact⟨_,rfl,by rw[<-Qq.o];exact HA.o,HQ.o⟩
  . have Qn:(0:Int)<(g:Int):=by have:=B.o;have:=Ah.2 d;omega
    obtain⟨H3,H4,HN,Qj⟩:=D9 (Qk.o a b n.o d wr _ _ HA.o HB.o) (λ(V:F) (x:N) (k:RowK false V x (J7 a b))=>Qh.o a b n.o d V x k) (Qg.o a b n.o d) (show(Jt (J7 a b)).length<b.length by rw[Yg (Y7 _ _)];exact(YU a b n.o.tb d).2.1);clear d;go_wp2_with(first
     |(go_at_call 41;refine H3.o.mono ?_;clear H3;rintro e w3 ⟨u3,v3,rfl,aj,ai,T⟩)
     |(go_at_call 40;refine(H4.o _ _ ai).mono ?_;clear H4;rintro e w4 ⟨u4,rfl,af,ae⟩;obtain⟨za,zl,zc,rfl⟩:=af.form))
    obtain⟨I,Qr,Qp⟩:=Di af ((HB.o.below T).below ae) ((Bt HQ.o T).trans (ae.mono (As HQ.o.size T.size)));clear aj ai T af ae;go_roundw
    case rel=>exact⟨b,Jt (J7 a b),_,_,_,_,_,_,rfl,rfl,by have:=I.o.formsF.1;have:=Qj.o;have:=B.o;omega,J I.o.formsF.1,Qr,I,HN,Qp⟩
    case measure=>
     show zl<g;have Q:=I.o.formsF.1;have h2:=Qj.o;have h3:=B.o;omega
end M3
section
def Dv(a b:List Rat):Prop:=∃c:List Rat,∀x,ev b x=ev a x*ev c x
def Ew(a b:List Rat):Prop:=∃u v:List Rat,∀x,ev u x*ev a x+ev v x*ev b x=1
section
variable {a b c d p q:List Rat}
theorem Dv.refl(a:List Rat):Dv a a:=⟨[1],λx=>by simp[ev];grind⟩
theorem Dv.trans(h:Dv a b)(d:Dv b c):Dv a c:=by
 obtain⟨u,e⟩:=h;obtain⟨v,f⟩:=d;exact⟨JB u v,λx=>by rw[f,e,Jn];grind⟩
theorem Dv.zero(a:List Rat):Dv a []:=⟨[],λx=>by simp[ev]⟩
theorem Dv.comb(h:Dv d a)(e:Dv d b)(u v:List Rat)(f:∀x,ev c x=ev u x*ev a x+ev v x*ev b x):Dv d c:=by
 obtain⟨s,hs⟩:=h;obtain⟨t,g⟩:=e;exact⟨XV (JB u s) (JB v t),λx=>by rw[f,hs,g,XF,Jn,Jn];grind⟩
theorem Dv.of_sc{k:Rat}(c:k≠0)(h:Dv a b):Dv (Df k a) b:=by
 obtain⟨u,d⟩:=h;have e:(1/k)*k=1:=Cb c;exact⟨Df (1/k) u,λx=>by rw[d,YY,YY];grind⟩
theorem Dv.sc(h:Dv a b)(k:Rat):Dv a (Df k b):=by
 obtain⟨u,c⟩:=h;exact⟨Df k u,λx=>by rw[YY,c,YY];grind⟩
theorem Ew.symm(h:Ew a b):Ew b a:=by
 obtain⟨u,v,h⟩:=h;exact⟨v,u,λx=>by rw[<-h x];grind⟩
theorem Ew.of_dv(h:Ew a b)(c:Dv d a):Ew d b:=by
 obtain⟨u,v,h⟩:=h;obtain⟨s,hs⟩:=c;exact⟨JB u s,v,λx=>by rw[<-h x,hs x,Jn];grind⟩
theorem Ew.dv(h:Ew a b)(e:Dv a (JB b c)):Dv a c:=by
 obtain⟨u,v,h⟩:=h;obtain⟨k,f⟩:=e;refine⟨XV (JB u c) (JB v k),λx=>?_⟩;have g:=h x;have d:=f x;rw[Jn]at d;rw[XF,Jn,Jn];grind
theorem Ew.mul(h:Ew a b)(d:Ew a c):Ew a (JB b c):=by
 obtain⟨u,v,h⟩:=h;obtain⟨s,t,d⟩:=d;refine⟨XV u (JB (JB v b) s),JB v t,λx=>?_⟩;have e:=h x;have f:=d x;rw[XF,Jn,Jn,Jn,Jn];grind
end
theorem Tp{p:List Rat}(x:Rat):ev (Jt p) x=ev p x*(1/cf p (p.length-1)):=YY _ _ _
theorem iE:∀(n:Nat) (p q:List Rat),Jc p=p->Jc q=q->q.length<=n->Dv (EY n p q) p/\Dv (EY n p q) q/\∃u v:List Rat,∀x,ev (EY n p q) x=ev u x*ev p x+ev v x*ev q x:=by
 intro n;induction n with
 |zero=>
  intro p q hp hq hl;have a:q=[]:=NP O;subst a;rw[EY];refine⟨?_,Dv.zero _,[1/cf p (p.length-1)],[],λx=>by rw[Tp];simp[ev];grind⟩;by_cases b:p=[]
  . subst b;exact Dv.refl _
  . exact Dv.of_sc (Hl (Jv hp b)) (Dv.refl _)
 |succ n g=>
  intro p q hp hq hl;by_cases a:q=[]
  . subst a;simp only[EY,BG];refine⟨?_,Dv.zero _,[1/cf p (p.length-1)],[],λx=>by rw[Tp];simp[ev];grind⟩;by_cases b:p=[]
    . subst b;exact Dv.refl _
    . exact Dv.of_sc (Hl (Jv hp b)) (Dv.refl _)
  . simp only[EY,BC a];obtain⟨d,j,k,i⟩:=YU p q hq a;obtain⟨c,e,u,v,f⟩:=g q (J7 p q) hq i O;refine⟨c.comb e (JM p q) [1] (λx=>by rw[d x];simp[ev];grind),c,v,JP u (JB v (JM p q)),λx=>?_⟩;rw[f x,d x,Hs,Jn];grind
section
variable {p q d:List Rat}
theorem XK(hp:Jc p=p)(hq:Jc q=q):Dv (JC p q) p/\Dv (JC p q) q/\∃u v:List Rat,∀x,ev (JC p q) x=ev u x*ev p x+ev v x*ev q x:=iE _ p q hp hq (Aa _)
theorem Tq(hp:Jc p=p)(hq:Jc q=q)(a:Dv d p)(b:Dv d q):Dv d (JC p q):=by
 obtain⟨_,_,u,v,h⟩:=XK hp hq;exact a.comb b u v h
theorem iF:∀(n:Nat) (p q:List Rat),Jc p=p->Jc q=q->q.length<=n->Jt (EY n p q)=EY n p q:=by
 intro n;induction n with
 |zero=>intro p q hp _ _;exact Iu hp
 |succ n b=>
  intro p q hp hq hl;rw[EY];split
  . exact Iu hp
  . rename_i a;have:=(YU p q hq a).2.1;exact b _ _ hq (Y7 _ _) O
theorem Xa(hp:Jc p=p)(hq:Jc q=q):Jt (JC p q)=JC p q:=iF _ p q hp hq (Aa _)
end
variable{a b g p q:List Rat}
theorem X2(hp:Jc p=p)(h:∀x,ev p x=0):p=[]:=Ez hp rfl (λx=>by rw[h x];rfl)
theorem Dv.some(d:Jc b=b)(h:Dv a b):∃c,Jc c=c/\b=JB a c:=by
 obtain⟨c,e⟩:=h;exact⟨Jc c,Yr _,Ez d (J4 _ _) λx=>by rw[Jn,XR,e]⟩
theorem Xi(a:List Rat):JB a []=[]:=X2 (J4 _ _) λx=>by rw[Jn];simp[ev]
theorem Dv.anti(o:Jc a=a)(j:Jc b=b)(h:Dv a b)(r:Dv b a):∃k:Rat,k≠0/\b=Df k a:=by
 obtain⟨c,p,e⟩:=h.some j;obtain⟨d,s,i⟩:=r.some o;by_cases g:a=[]
 . refine⟨1,DP,?_⟩;rw[e,g];rfl
 . have n:b≠[]:=λf=>g (by rw[i,f];rfl);have m:c≠[]:=λf=>n (by rw[e,f];exact Xi _);have l:d≠[]:=λf=>g (by rw[i,f];exact Xi _);have l1:=JL o p g m;have l2:=JL j s n l;rw[<-e]at l1;rw[<-i]at l2;have u:0<c.length:=Ah.2 m;have v:0<d.length:=Ah.2 l;have w:0<a.length:=Ah.2 g;have q:c.length=1:=O
   match c,q with
   |[k],_=>
    have t:k≠0:=by
     have:=Jv p Y;simpa[Y5]using this
    refine⟨k,t,Ez j (JV _ _) λx=>?_⟩;rw[e,Jn,YY];simp[ev];grind
theorem Dv.eq(c:Jc a=a)(f:Jc b=b)(ma:Jt a=a)(mb:Jt b=b)(h:Dv a b)(d:Dv b a):a=b:=by
 obtain⟨k,g,e⟩:=h.anti c f d;rw[<-mb,e,Lm g c,ma]
theorem Y4(e:Jc g=g)(a:g≠[])(h:Dv g p):J7 p g=[]/\∀x,ev p x=ev g x*ev (JM p g) x:=by
 obtain⟨c,d⟩:=h;have b:=NQ (p:=p) (u:=Jc c) (v:=[]) e a (Yr _) rfl (Ah.2 a) (λx=>by rw[d,XR];simp[ev];grind);refine⟨b.2.symm,λx=>?_⟩;rw[<-b.1,XR,d]
theorem Iw{u v:List Rat}(i:Jc g=g)(b:g≠[])(h:∀x,ev g x*ev u x=ev g x*ev v x):∀x,ev u x=ev v x:=by
 have d:JB g (JP u v)=[]:=X2 (J4 _ _) λx=>by rw[Jn,Hs];have:=h x;grind
 have e:JP u v=[]:=by
  by_cases a:JP u v=[]
  . exact a
  . exfalso
    have l:=JL i (Ys u v) b a;rw[d]at l;have j:0<g.length:=Ah.2 b;have k:0<(JP u v).length:=Ah.2 a;simp at l;omega
 intro x;have c:=Bv (λr=>ev r x) e;simp only[Hs]at c;have f:ev [] x=0:=rfl;rw[f]at c;grind
theorem PS(hp:Jc p=p)(hq:Jc q=q)(a:JC p q≠[]):Ew (JM p (JC p q)) (JM q (JC p q)):=by
 obtain⟨f,g,u,v,i⟩:=XK hp hq;have c:=J1 p q;have d:=(Y4 c a f).2;have e:=(Y4 c a g).2;refine⟨u,v,?_⟩;have j:=Iw (u:=XV (JB u (JM p (JC p q))) (JB v (JM q (JC p q)))) (v:=[1]) c a (λx=>by
  rw[XF,Jn,Jn];have b:=i x;have k:=d x;have l:=e x;simp[ev];grind)
 intro x;have b:=j x;rw[XF,Jn,Jn]at b;rw[b];simp[ev];grind
theorem XT(hp:Jc p=p)(hq:Jc q=q)(h:p≠[]\/q≠[]):JC p q≠[]:=λe=>by
 obtain⟨a,b,_⟩:=XK hp hq;rw[e]at a b;obtain⟨c,f⟩:=a;obtain⟨d,g⟩:=b;rcases h with h|h
 . exact h (X2 hp λx=>by rw[f];simp[ev])
 . exact h (X2 hq λx=>by rw[g];simp[ev])
end
section
variable {a b c d e f g k p q r u w y z R:List Rat}
theorem Lv(p q:List Rat)(x:Rat):ev (Je (JB p q)) x=ev (Je p) x*ev q x+ev p x*ev (Je q) x:=by
 rw[VF,XF,Jn,Jn]
theorem Xs(p:List Rat)(i:Nat):cf (Je p) i=cf p (i+1)*(((i+1:Nat):Int):Rat):=by
 unfold Je;rw[JX,Jx];rfl
theorem YR(a:p≠[]):(Je p).length<p.length:=by
 have b:0<p.length:=Ah.2 a;have c:(Je p).length<=p.length-1:=Xp (JE _) λi d=>by
  rw[Xs,JZ O,Cu]
 omega
theorem Tr(hp:Jc p=p)(h:Je p=[]):p.length<=1:=by
 refine Xp hp λi d=>?_;obtain⟨j,rfl⟩:∃j,i=j+1:=⟨i-1,O⟩;have b:=Xs p j;rw[h,YI]at b;rcases Fm.1 b.symm with a|a
 . exact a
 . exfalso
   have c:((j+1:Nat):Int)=0:=by exact_mod_cast a
   omega
theorem PT(hp:Jc p=p)(a:p≠[])(hl:p.length<=1):Dv p [1]:=by
 have b:0<p.length:=Ah.2 a;match p,hl,hp,a with
 |[c],_,hp,_=>
  have d:c≠0:=by
   have:=Jv hp Y;simpa[Y5]using this
  exact⟨[1/c],λx=>by simp[ev];grind⟩
theorem Ts(b:Jc u=u)(a:u≠[])(h:Dv u (Je u)):Dv u [1]:=by
 refine PT b a (Tr b ?_);obtain⟨c,i,e⟩:=h.some (JE u);by_cases f:Je u=[]
 . exact f
 . exfalso
   have d:c≠[]:=λg=>f (by rw[e,g];exact Xi _);have l1:=JL b i a d;have l2:=YR a;have j:0<c.length:=Ah.2 d;rw[<-e]at l1;omega
theorem iG(f:Jc a=a)(g:Jc b=b)(c:a≠[])(d:b≠[]):JB a b≠[]:=λe=>by
 have l:=JL f g c d;have i:0<a.length:=Ah.2 c;have j:0<b.length:=Ah.2 d;rw[e]at l;simp at l;omega
theorem iH(D:Jc d=d)(r:d≠[])(h:Dv d (JB (Je d) f)):∀(n:Nat) (u:List Rat),Jc u=u->d.length-u.length<=n->Dv u d->Ew u f->Dv u [1]:=by
 intro n;induction n with
 |zero=>
  intro u b hl p l;obtain⟨m,o,e⟩:=p.some D;have a:u≠[]:=λg=>r (by rw[e,g];rfl);have w:m≠[]:=λg=>r (by rw[e,g];exact Xi _);have l1:=JL b o a w;rw[<-e]at l1;have p3:0<u.length:=Ah.2 a;have T:m.length<=1:=O
  have U:=PT o w T;have S:Dv d u:=by
   obtain⟨c,j⟩:=U;refine⟨c,λx=>?_⟩;have y:=j x;rw[e,Jn,Rat.mul_assoc,<-y];simp[ev];grind
  have i:Dv u (JB f (Je d)):=by
   obtain⟨c,j⟩:=p.trans h;exact⟨c,λx=>by rw[<-j,Jn,Jn];grind⟩
  have z:=l.dv i;refine Ts b a ?_;obtain⟨k,hk,V⟩:=S.anti D b p;have A:Je u=Df k (Je d):=by
   refine Ez (JE _) (JV _ _) λx=>?_;rw[V,YY];have B:Df k d=JB d [k]:=Ez (JV _ _) (J4 _ _) λx=>by rw[YY,Jn];simp[ev];grind
   rw[B,Lv];have M:ev (Je [k]) x=0:=by rw[L7];simp[dv,ev];grind
   rw[M];simp[ev];grind
  rw[A];exact z.sc k
 |succ n ih=>
  intro u b hl p l;obtain⟨m,o,e⟩:=p.some D;have a:u≠[]:=λg=>r (by rw[e,g];rfl);have w:m≠[]:=λg=>r (by rw[e,g];exact Xi _);obtain⟨g1,g2,s,t,W⟩:=XK b o;have K:=XT b o (Or.inl a);have I:=J1 u m;by_cases X:(JC u m).length<=1
  . obtain⟨c,j⟩:=PT I K X;have Q:Ew u m:=⟨JB s c,JB t c,λx=>by
     have y:=j x;have i:=W x;rw[Jn,Jn];have z:ev [1] x=1:=by simp[ev];grind
     rw[z]at y;grind⟩
    have i:Dv u (JB f (JB m (Je u))):=by
     obtain⟨v,q⟩:=h;refine⟨JP (JB m v) (JB f (Je m)),λx=>?_⟩;have A:=q x;have B:=Lv u m x;rw[<-e]at B;have M:ev d x=ev u x*ev m x:=by rw[e,Jn]
     rw[Jn]at A;rw[Jn,Jn,Hs,Jn,Jn];grind
    exact Ts b a (Q.dv (l.dv i))
  . have P:Dv (JB u (JC u m)) d:=by
     obtain⟨v,q⟩:=g2;exact⟨v,λx=>by rw[e,Jn,q,Jn];grind⟩
    have l1:=JL b I a K;have p3:0<u.length:=Ah.2 a;have i:=ih (JB u (JC u m)) (J4 _ _) O P (l.symm.mul (l.of_dv g1).symm).symm;obtain⟨v,q⟩:=i;exact⟨JB (JC u m) v,λx=>by rw[q,Jn,Jn];grind⟩
structure Yun(R w y:List Rat):Prop where
 tR:Jc R=R
 R0:R≠[]
 tw:Jc w=w
 w0:w≠[]
 mw:Jt w=w
 ty:Jc y=y
 eq:∀x,ev y x*ev R x=ev w x*ev (Je R) x
 cop:Ew w y
theorem Yun.dv(h:Yun R w y):Dv w R:=by
 refine h.cop.dv ⟨Je R,λx=>?_⟩;rw[Jn,h.eq]
theorem Lw(f:Jc w=w)(w0:w≠[])(mw:Jt w=w)(d:Jc g=g)(p:Jt g=g)(h:Dv g w):Jt (JM w g)=JM w g/\g≠[]/\JM w g≠[]/\w=JB g (JM w g):=by
 have a:g≠[]:=λe=>w0 (by
  obtain⟨c,m⟩:=h;exact X2 f λx=>by rw[m,e];simp[ev])
 have e:=(Y4 d a h).2;have b:w=JB g (JM w g):=Ez f (J4 _ _) λx=>by rw[Jn,<-e]
 have q0:JM w g≠[]:=λj=>w0 (by rw[b,j];exact Xi _);refine⟨?_,a,q0,b⟩;have l:=JL d (Yw w g) a q0;have r:0<g.length:=Ah.2 a;have q:0<(JM w g).length:=Ah.2 q0;have i:cf w (w.length-1)=cf g (g.length-1)*cf (JM w g) ((JM w g).length-1):=by
  obtain⟨Q,k⟩:=ex (JM w g);rw[k]at b l q ⊢;rw[b,l,show g.length+Q.length-1-1=(g.length-1)+(Q.length-1)by omega];unfold JB;rw[JX];exact Ni g Q (g.length-1) (Q.length-1) O O
 have o:cf w (w.length-1)=1:=by have:=Lo f w0;rwa[mw]at this
 have n:cf g (g.length-1)=1:=by have:=Lo d a;rwa[p]at this
 rw[o,n,FF]at i;unfold Jt;rw[<-i,show(1:Rat)/1=1 by grind];exact IY (Yw _ _)
theorem Yun.step(h:Yun R w y):JC w (JM R w)=JM w (JC w (JP y (Je w)))/\JM w (JC w (JM R w))=JC w (JP y (Je w))/\
 Yun (JM R w) (JM w (JC w (JP y (Je w)))) (JM (JP y (Je w)) (JC w (JP y (Je w))))/\R=JB w (JM R w)/\
 (∀x,ev (JP y (Je w)) x*ev (JM R w) x=ev w x*ev (Je (JM R w)) x)/\w=JB (JC w (JP y (Je w))) (JM w (JC w (JP y (Je w)))):=by
 obtain⟨r,hr⟩:=ex (JM R w);obtain⟨z,Q⟩:=ex (JP y (Je w));have tr:Jc r=r:=by rw[<-hr];exact Yw _ _
 have U:Jc z=z:=by rw[<-Q];exact Ys _ _
 have eR:∀x,ev R x=ev w x*ev r x:=by rw[<-hr];exact(Y4 h.tw h.w0 h.dv).2
 have V:R=JB w r:=Ez h.tR (J4 _ _) λx=>by rw[Jn,eR]
 have r0:r≠[]:=λe=>h.R0 (by rw[V,e];exact Xi _);have Qf:∀x,ev z x*ev r x=ev w x*ev (Je r) x:=by
  have b:=Iw (g:=w) (u:=JB z r) (v:=JB w (Je r)) h.tw h.w0 (λx=>by
   have a:=h.eq x;have i:=Lv w r x;rw[<-V]at i;rw[Jn,Jn,<-Q,Hs];have K:=eR x;grind)
  intro x;have a:=b x;rwa[Jn,Jn]at a
 have X:=JE r;obtain⟨d,B⟩:=ex (JC r (Je r));have I:Jc d=d:=by rw[<-B];exact J1 _ _
 have d0:d≠[]:=by rw[<-B];exact XT tr X (Or.inl r0)
 obtain⟨g1,g2,_⟩:=XK tr X;rw[B]at g1 g2;obtain⟨f,hf⟩:=ex (JM r d);obtain⟨e,he⟩:=ex (JM (Je r) d);have q:∀x,ev r x=ev d x*ev f x:=by rw[<-hf];exact(Y4 I d0 g1).2
 have ee:∀x,ev (Je r) x=ev d x*ev e x:=by rw[<-he];exact(Y4 I d0 g2).2
 have tf:Jc f=f:=by rw[<-hf];exact Yw _ _
 have f0:f≠[]:=λe2=>r0 (X2 tr λx=>by rw[q,e2];simp[ev]);have Qi:Ew f e:=by
  have:=PS tr X (by rw[B];exact d0);rwa[B,hf,he]at this
 have Qh:∀x,ev z x*ev f x=ev w x*ev e x:=by
  have b:=Iw (g:=d) (u:=JB z f) (v:=JB w e) I d0 (λx=>by
   have a:=Qf x;rw[q,ee]at a;rw[Jn,Jn];grind)
  intro x;have a:=b x;rwa[Jn,Jn]at a
 have Qg:Dv f w:=Qi.dv (⟨z,λx=>by rw[Jn];have:=Qh x;grind⟩);obtain⟨k,tk,ek⟩:=Qg.some h.tw;have j:∀x,ev w x=ev f x*ev k x:=λx=>by rw[ek,Jn]
 have W:∀x,ev z x=ev k x*ev e x:=by
  have b:=Iw (g:=f) (u:=z) (v:=JB k e) tf f0 (λx=>by
   have a:=Qh x;rw[j]at a;rw[Jn];grind)
  intro x;have a:=b x;rwa[Jn]at a
 obtain⟨P,l⟩:=ex (JC w z);have m:Jc P=P:=by rw[<-l];exact J1 _ _
 have mP:Jt P=P:=by rw[<-l];exact Xa h.tw U
 obtain⟨S,p2,_⟩:=XK h.tw U;have Qo:Dv k P:=by rw[<-l];exact Tq h.tw U ⟨f,λx=>by rw[j];grind⟩ ⟨e,W⟩
 rw[l]at S p2;have Qm:Dv P k:=by
  obtain⟨u,v,D⟩:=Qi;refine S.comb p2 u v λx=>?_;have b:=D x;rw[j,W];grind
 obtain⟨m1,p,n0,eW⟩:=Lw h.tw h.w0 h.mw m mP S;have zP:=(Y4 m p p2).2;have o:=(Y4 m p S).2;have Ql:Ew k y:=h.cop.of_dv ⟨f,λx=>by rw[j];grind⟩;have Qq:Ew k f:=by
  obtain⟨u,v,D⟩:=Ql;refine⟨XV u (JB v (XV e (Je f))),JB v (Je k),λx=>?_⟩;have b:=D x;have a:ev y x=ev z x+ev (Je w) x:=by rw[<-Q,Hs];grind
  have i:=Lv f k x;rw[<-ek]at i;have K:=W x;rw[XF,Jn,Jn,XF];grind
 have Qj:Dv d (JB (Je d) f):=by
  refine⟨JP e (Je f),λx=>?_⟩;have b:r=JB d f:=Ez tr (J4 _ _) λx=>by rw[Jn,q]
  have a:=Lv d f x;rw[<-b,ee]at a;rw[Jn,Hs];grind
 have Qp:Ew k d:=by
  obtain⟨q1,q2,s,t,q3⟩:=XK tk I;obtain⟨c,A⟩:=iH I d0 Qj (d.length) (JC k d) (J1 _ _) O q2 (Qq.of_dv q1);refine⟨JB s c,JB t c,λx=>?_⟩;have b:=A x;have a:=q3 x;have i:ev [1] x=1:=by simp[ev];grind
  rw[i]at b;rw[Jn,Jn];grind
 obtain⟨c1,c2,s,t,c3⟩:=XK h.tw tr;have Qk:Dv f (JC w r):=Tq h.tw tr Qg ⟨d,λx=>by rw[q];grind⟩;have Qs:Dv (JC w r) f:=by
  obtain⟨u,v,D⟩:=Qp;refine c1.comb c2 u v λx=>?_;have b:=D x;rw[j,q];grind
 obtain⟨n,M⟩:=ex (JM w P);rw[M]at m1 n0 eW o;have T:Jc n=n:=by rw[<-M];exact Yw _ _
 have Qt:Dv f n:=by
  obtain⟨c,A⟩:=Qm;refine⟨c,λx=>?_⟩;have b:=Iw (g:=P) (u:=n) (v:=JB f c) m p (λx=>by
   have a:=o x;have i:=j x;have K:=A x;rw[Jn];grind)
  have a:=b x;rwa[Jn]at a
 have Qn:Dv n f:=by
  have k0:k≠[]:=λe2=>h.w0 (by rw[ek,e2];exact Xi _);obtain⟨c,A⟩:=Qo;refine⟨c,λx=>?_⟩;have b:=Iw (g:=k) (u:=f) (v:=JB n c) tk k0 (λx=>by
   have a:=o x;have i:=j x;have K:=A x;rw[Jn];grind)
  have a:=b x;rwa[Jn]at a
 have hG:JC w r=n:=Dv.eq (J1 _ _) T (Xa h.tw tr) m1 (Qs.trans Qt) (Qn.trans Qk);have Qr:Dv n w:=⟨P,λx=>by rw[o];grind⟩;have Qb:JM w n=P:=by
  refine Ez (Yw _ _) m λx=>?_;have b:=(Y4 T n0 Qr).2;refine Iw (g:=n) (u:=JM w n) (v:=P) T n0 (λx=>?_) x;have a:=b x;have i:=o x;grind
 rw[hr,Q,l,M];refine⟨hG,by rw[hG];exact Qb,⟨tr,r0,T,n0,m1,Yw _ _,λx=>?_,?_⟩,V,Qf,eW⟩
 . refine(Iw (g:=P) (u:=JB (JM z P) r) (v:=JB n (Je r)) m p (λx=>?_) x |> λb=>by rwa[Jn,Jn]at b);have a:=Qf x;have i:=zP x;have K:=o x;rw[Jn,Jn];grind
 . have:=PS h.tw U (by rw[l];exact p);rwa[l,M]at this
theorem Yun.start(tp:Jc p=p)(c:p≠[])(i:Jt p=p):Yun p (JM p (JC p (Je p))) (JM (Je p) (JC p (Je p))):=by
 have a:=JE p;obtain⟨g1,g2,_⟩:=XK tp a;have b:=XT tp a (Or.inl c);obtain⟨g,_,n0,e⟩:=Lw tp c i (J1 _ _) (Xa tp a) g1;have d:=(Y4 (J1 p (Je p)) b g1).2;have f:=(Y4 (J1 p (Je p)) b g2).2;refine⟨tp,c,Yw _ _,n0,g,Yw _ _,λx=>?_,PS tp a b⟩;have j:=d x;have k:=f x;grind
end
section
open Go.RowKit Go.Shelf
def Cd(M:Nat)(p:List Rat):Prop:=∃D:Int,D≠0/\Sm M D/\EF D M p
section
variable {M N:Nat} {p q:List Rat}
theorem Cd.mono(h:Cd M p)(a:M<=N):Cd N p:=by
 obtain⟨D,d1,b,c⟩:=h;exact⟨D,d1,b.mono a,λi=>(c i).mono a⟩
theorem Cd.smq(h:Cd M p)(i:Nat):Dd M (cf p i):=by
 obtain⟨D,d1,a,b⟩:=h;exact(b i).smq d1 a
theorem Cd.ln(h:Cd M p):Ln M p:=by
 obtain⟨D,d1,b,a⟩:=h;exact a.ln d1
theorem Cd.sqs(h:Cd M p)(a:M<=1000000):DZ p:=DZ.of λi=>Sq.of (h.smq i) a
theorem Cd.pos(h:Cd M p):1<=M:=by
 obtain⟨D,d1,a,_⟩:=h;by_cases b:1<=M
 . exact b
 . exfalso
   obtain rfl:M=0:=O
   unfold Sm at a;have:D.natAbs≠0:=Int.natAbs_ne_zero.2 d1;simp at a;omega
theorem Cd.mon(h:Cd M p)(tp:Jc p=p):Cd M (Jt p):=KX tp h.ln h.pos
theorem Cd.monS(h:Cd M p)(tp:Jc p=p)(b:M<=1000000)(i:Nat):Sq (cf p i/cf p (p.length-1)):=by
 have a:=Ln.sqs tp h.ln h.pos i;unfold Jt at a;rw[Yv,Fi,FF,<-Fi]at a;exact Sq.of a b
theorem Cd.dvn(h:Cd M p)(f:Cd M q)(g:cf q (q.length-1)=1):∃D E:Int,Dvn D E E M M p q:=by
 obtain⟨D,d1,c,d⟩:=h;obtain⟨E,a,b,e⟩:=f;exact⟨D,E,d1,c,d,a,b,e,a,b,by rw[g,Rat.divInt_self' a]⟩
theorem Cd.quo(h:Cd M p)(e:Cd M q)(b:cf q (q.length-1)=1):Cd ((p.length+1)*(M+1)) (JM p q)/\Cd ((p.length+1)*(M+1)) (J7 p q):=by
 obtain⟨D,E,d⟩:=h.dvn e b;obtain⟨m,b⟩:=ex (p.length-(q.length-1));have a:=d.den m;have c:=d.rem b;have f:m*(M+1)<=p.length*(M+1):=Ak _ O;have g:(p.length+1)*(M+1)=p.length*(M+1)+(M+1):=by rw[AA,CB]
 exact⟨⟨_,a.1,a.2.mono O,λi=>(c.2 i).mono O⟩,⟨_,a.1,a.2.mono O,λi=>(c.1 i).mono O⟩⟩
end
variable{q:List Rat}
theorem PU(tq:Jc q=q)(q0:q≠[])(a:Jt q=q):cf q (q.length-1)=1:=by
 have:=Lo tq q0;rwa[a]at this
def Dm(p q:List Rat):List Rat:=if q=[]then []else JM p q
theorem iI(p q:List Rat):Jc (Dm p q)=Dm p q:=by
 unfold Dm;split
 . rfl
 . exact Yw _ _
theorem Cd.ov{M:Nat}{p:List Rat}(h:Cd M p)(b:Cd M q)(tq:Jc q=q)(c:Jt q=q):Cd ((p.length+1)*(M+1)) (Dm p q):=by
 unfold Dm;split
 . refine(show Cd 1 []from PO O).mono ?_;have:1*1<=(p.length+1)*(M+1):=Cs O O;omega
 . rename_i a;exact(h.quo b (PU tq a c)).1
def GC(p:List Rat):List Rat:=Jt (Dm p (JC p (Je p)))
namespace M3
variable{p q:List Rat}{K:Nat}
theorem Chn.ends(d:ChOk K p q):∀(n:Nat) (a b:List Rat),b.length<=n->Chn p q (De K p q) a b->∃r,Chn p q (De K p q) r []:=by
 intro n;induction n with
 |zero=>
  intro a b hl h;have c:b=[]:=NP O;subst c;exact⟨a,h⟩
 |succ n e=>
  intro a b hl h;by_cases c:b=[]
  . subst c;exact⟨a,h⟩
  . have f:=NU (a:=a) h.tb c;exact e b (Er a b) O (Chn.next d.tp d.tq d.lp d.lq d.bd.2.2.1 h c)
theorem ChOk.gcd(a:ChOk K p q):Cd (De K p q) (JC p q):=by
 obtain⟨r,b⟩:=Chn.ends a _ _ _ (Aa _) (Chn.start a.tp a.tq a.lp a.lq a.bd.2.2.1);rw[<-b.gc,PH];exact KX b.ta b.wa.ln a.bd.2.2.2
theorem Tt(M:Nat)(v:N)(p:List Rat)(w:F)(h:Jh w v p)(tp:Jc p=p)(b:Cd M p)(a:M<=1000000):
 Calls G 26 #[v] w λe c=>∃u,e=.returned u/\Jh c u (Jt p)/\Bl w c:=
 Tk v p w h (b.sqs a) tp λi=>b.monS tp a i
theorem iJ(M:Nat)(v:N)(p:List Rat)(w:F)(h:RowK false w v p)(tp:Jc p=p)(b:Cd M p)(a:M<=1000000)(hl:p.length<=1000000):
 Calls G 40 #[v] w λe c=>∃u,e=.returned u/\RowK false c u (Jt p)/\Bl w c:=
 PR v p w h tp (b.sqs a) (λd=>by
  rw[Fi,FF];exact Sq.of ((b.smq _).inv (Jv tp d)) a) O
theorem PV(M:Nat)(b c:N)(p q:List Rat)(w:F)(f:RowK false w b p)(g:RowK false w c q)(hp:Cd M p)(hq:Cd M q)(tp:Jc p=p)(tq:Jc q=q)(q0:q≠[])(i:Jt q=q)(k:(p.length+3)*(M+1)<=1000000)(hl:p.length<=1000):
 Calls G 41 #[b,c] w λe d=>∃u v,e=.returned (.tuple #[u,v])/\RowK false d u (JM p q)/\RowK false d v (J7 p q)/\Bl w d:=by
 obtain⟨D,E,a⟩:=hp.dvn hq (PU tq q0 i);have j:(p.length+3)*(M+1)=p.length*(M+1)+3*(M+1):=AA _ _ _;exact Ta _ M b c p q w f g (a.divS p.length O) a.start a.sq tp tq q0 hl
theorem iK(M:Nat)(a b:N)(p q:List Rat)(w:F)(d:Jh w a p)(f:Jh w b q)(hp:Cd M p)(hq:Cd M q)(tp:Jc p=p)(tq:Jc q=q)(j:Jt q=q)(n:2*((p.length+3)*(M+1))<=1000000):
 Calls G 22 #[a,b] w λe c=>∃u v,e=.returned (.tuple #[u,v,.bool (decide (q≠[]))])/\Jh c u (if q=[]then []else JM p q)/\Jh c v (if q=[]then []else J7 p q)/\Bl w c:=by
 have k:(p.length+3)*(M+1)=p.length*(M+1)+3*(M+1):=AA _ _ _;refine TJ M a b p q w d f (hp.sqs O) hq.smq tp tq λq0=>?_;obtain⟨D,E,g⟩:=hp.dvn hq (PU tq q0 j);obtain⟨m,i⟩:=ex (p.length-(q.length-1));have l:m*(M+1)<=p.length*(M+1):=Ak _ O;rw[i];exact g.sizes O
attribute [local go_sem] Oper.semAt_some
theorem Lx(M:Nat)(U V:N)(p q:List Rat)(w:F)(t:Jh w U p)(y:Jh w V q)(hp:Cd M p)(hq:Cd M q)(tp:Jc p=p)(tq:Jc q=q)(T:Jt q=q)(K:2*((p.length+3)*(M+1))<=1000000):
 Calls G 46 #[U,V] w λe W=>∃u,e=.returned u/\Jh W u (Dm p q)/\Bl w W:=by
 obtain⟨j,la,k,rfl⟩:=t.form;obtain⟨l,lb,m,rfl⟩:=y.form;have r:=(((Mem.nil w).push (.cell 25 (C j la k)) (cs:=#[C j la k]) ⟨rfl,rfl⟩).push (.cell 25 (C l lb m)) (cs:=#[C l lb m]) ⟨rfl,rfl⟩).push (.cell 25 (C none 0 0)) (cs:=#[C none 0 0]) ⟨rfl,rfl⟩;simp only[A1]at r;obtain⟨W0,s⟩:=ex (((w.alloc (E #[C j la k] 25)).alloc (E #[C l lb m] 25)).alloc (E #[C none 0 0] 25));have B:=J s;have a:Hid (Mem w W0 [some (w.heap.size,.cell 25 (C j la k)),some (w.heap.size+1,.cell 25 (C l lb m)),some (w.heap.size+1+1,.cell 25 (C none 0 0))]):=J (by rw[<-s];exact r);have o:=J (iK M _ _ p q W0 (t.below a.o.2.2) (y.below a.o.2.2) hp hq tp tq T K);obtain⟨bq,P⟩:=ex (decide (q≠[]));rw[P,show(if q=[]then []else JM p q)=Dm p q from rfl]at o;have c0:=(a.o.cell (i:=0) rfl).1.cell;have c1:=(a.o.cell (i:=1) rfl).1.cell;have n1:=(a.o.cell (i:=2) rfl).1;have A:=J a.o.2.2;clear r s t y hp hq tp tq T K P a;go_enter Tryz.func46,Tryz.ntmps46
 go_upto_region 1 with fail
 rw[B.o];clear B;go_upto_region 2 with(go_at_call 22;refine o.o.mono ?_;clear o;rintro e n ⟨u4,v4,rfl,z,Q,f⟩;obtain⟨b,c,c4,rfl⟩:=z.form;obtain⟨D,S,I,rfl⟩:=Q.form)
 have d:Bl n ((n.alloc (E #[C b c c4] 25)).alloc (E #[C D S I] 25)):=(Ba n _).alloc (by rw[A1];omega) _;have nb:=(BM n 25 (C b c c4)).alloc (E #[C D S I] 25);have e5:=nb.cell;have g:=boxed_below (boxed_below n1 f) d;have x0:=g.cell;have x1:=g.frozen;have Qe:=J (Ls g (x:=C b c c4) (z.below d));have X:=J (((Bt A.o f).trans (d.mono (As A.o.size f.size))).setCell (p:=⟨w.heap.size+1+1,0,none⟩) (by show w.heap.size<=w.heap.size+1+1;omega) (C b c c4));clear c0 c1 z Q f nb g d;go_wp2_with fail
 exact BA (v:=R #[C b c c4]) (by simp[results,Tryz.results46,go_sem,x0]) rfl ⟨_,rfl,Qe.o,X.o⟩
structure FrOk(K:Nat)(p:List Rat):Prop where
 ch:ChOk K p (Je p)
 le:(p.length+3)*(De K p (Je p)+1)*2<=1000000
theorem FrOk.cd(h:FrOk K p):Cd (De K p (Je p)) p:=(show Cd K p from h.ch.cp).mono (by have:=IB K p (Je p);omega)
theorem FrOk.sl(h:FrOk K p)(i:Nat):Sq (F5 p i):=by
 have b:=(show Cd K (Je p)from h.ch.cq).sqs h.ch.bd.2.1;have a:=b.at i;unfold Je at a;rwa[JX,Jx]at a
theorem iL(K:Nat)(v:N)(p:List Rat)(w:F)(h:Jh w v p)(m:FrOk K p):
 Calls G 16 #[v] w λe w'=>∃u,e=.returned u/\Jh w' u (GC p)/\Bl w w':=by
 have Qi:Tryz.prog.follows .mixedOrders=true:=by kernel_rfl
 obtain⟨j,la,k,rfl⟩:=h.form;have M0:=((Mem.nil w).push (.cell 25 (C j la k)) (cs:=#[C j la k]) ⟨rfl,rfl⟩).push (.poly []) (cs:=#[C none 0 0]) (Ic _);simp only[A1]at M0;obtain⟨W0,ae⟩:=ex ((w.alloc (E #[C j la k] 25)).alloc (E #[C none 0 0] 25));have Qc:=J ae;have h9:=m.le;have h8:=m.ch.bd;have h7:(p.length+3)*(De K p (Je p)+1)=(p.length+1)*(De K p (Je p)+1)+2*(De K p (Je p)+1):=by rw[<-AA]
 have Qa:=m.ch.gcd;have Qb:=Xa m.ch.tp m.ch.tq;obtain⟨Qe,Qj,Qf,Qd⟩:=D9 (λ(V:F) (Q:Bl w V)=>PE (R #[C j la k]) p V (h.below Q) (m.cd.sqs h8.1) m.sl) (λ(V:F) (Q:Bl w V) (y:N) (T:Jh V y (Je p))=>PQ K (R #[C j la k]) y p (Je p) V (h.below Q) T m.ch) (λ(V:F) (Q:Bl w V) (y:N) (T:Jh V y (JC p (Je p)))=>Lx (De K p (Je p)) (R #[C j la k]) y p (JC p (Je p)) V (h.below Q) T m.cd Qa m.ch.tp (J1 _ _) Qb O) λ(V:F) (y:N) (T:Jh V y (Dm p (JC p (Je p))))=>Tt ((p.length+1)*(De K p (Je p)+1)) y (Dm p (JC p (Je p))) V T (iI _ _) (m.cd.ov Qa (J1 _ _) Qb) O;rw[show Jt (Dm p (JC p (Je p)))=GC p from rfl]at Qd;have M1:Hid (Mem w W0 [some (w.heap.size,.cell 25 (C j la k)),some (w.heap.size+1,.poly ([]))]):=J (by rw[<-ae];exact M0);clear M0 ae h m h9 h8 h7 Qa Qb;go_enter Tryz.func16,Tryz.ntmps16
 go_upto_region 1 with fail
 rw[Qc.o];clear Qc;refine Jl Qi [[],[],[],[2],[1,3,3],[0,4,4],[5,5],[6,6,0,1,2,3,4,5,6]] (by kernel_rfl) DP
  (λD ad V=>∃(ta tb W X te tf tg:N) (U:Option (Nat × Dat)),ad={ tmps:=#[R #[C j la k],L (some ⟨w.heap.size,0,none⟩),L (some ⟨w.heap.size+1,0,none⟩),ta,tb,W,X,te,tf,tg],defers:=[] }/\Hid ((D 0=true->ta=R #[C j la k])/\(D 1=true->tb=R #[C j la k])/\(D 2=true->W=R #[C j la k])/\(D 3=true->Has V X (.poly (Je p)))/\(D 4=true->Has V te (.poly (JC p (Je p))))/\(D 5=true->Has V tf (.poly (Dm p (JC p (Je p)))))/\(D 6=true->Has V tg (.poly (GC p)))/\((D 7=false->U=some (w.heap.size+1,.poly ([])))/\(D 7=true->U=some (w.heap.size+1,.poly (GC p)))))/\Hid (Mem w V [some (w.heap.size,.cell 25 (C j la k)),U]))
  ⟨_,_,_,_,_,_,_,_,rfl,J ⟨Y,Y,Y,Y,Y,Y,Y,⟨λ_=>rfl,Y⟩⟩,J (M1.o).drew⟩ ?step1 ?fin1
 case step1=>
  rintro D ad V i ds ah hi g af ⟨ta,tb,W,X,te,tf,tg,U,rfl,b,f⟩;have ai:i<8:=(Ac.1 hi).1;obtain rfl|rfl|rfl|rfl|rfl|rfl|rfl|rfl:=L3 i O
  all_goals
   simp only[Af,Ae,Ag]at hi;subst hi
  . have e0:=(f.o.cell (i:=0) rfl).1.cell;clear g;refine Za ?_;exact⟨_,_,_,_,_,_,_,_,rfl,(Dh b),J (f.o)⟩
  . have e0:=(f.o.cell (i:=0) rfl).1.cell;clear g;refine Za ?_;exact⟨_,_,_,_,_,_,_,_,rfl,(Dp b),J (f.o)⟩
  . have e0:=(f.o.cell (i:=0) rfl).1.cell;clear g;refine Za ?_;exact⟨_,_,_,_,_,_,_,_,rfl,(Dg b),J (f.o)⟩
  . obtain rfl:=(b.o.2.2.1 (g 2 Y));have I:=J (Qe.o V f.o.2.2);clear g;refine Jb rfl rfl λK hK=>?_;go_simp;go_wp2_with(go_at_call 24;refine I.o.mono ?_;rintro e w5 ⟨v5,rfl,M,d⟩)
    obtain⟨o,q,_,_,x,z,A,B⟩:=b.o;exact⟨_,_,_,_,_,_,_,_,rfl,J ⟨o,q,λ_=>rfl,λ_=>M,λh=>(x h).below d,λh=>(z h).below d,λh=>(A h).below d,B⟩,J (f.o.below d)⟩
  . obtain rfl:=(b.o.2.1 (g 1 Y));have P:=(b.o.2.2.2.1 (g 3 Y));have I:=J (Qj.o V f.o.2.2 _ P);clear g P;refine Jb rfl rfl λK hK=>?_;go_simp;go_wp2_with(go_at_call 8;refine I.o.mono ?_;rintro e w5 ⟨v5,rfl,M,d⟩)
    obtain⟨o,_,s,t,_,z,A,B⟩:=b.o;exact⟨_,_,_,_,_,_,_,_,rfl,J ⟨o,λ_=>rfl,s,λh=>(t h).below d,λ_=>M,λh=>(z h).below d,λh=>(A h).below d,B⟩,J (f.o.below d)⟩
  . obtain rfl:=(b.o.1 (g 0 Y));have P:=(b.o.2.2.2.2.1 (g 4 Y));have I:=J (Qf.o V f.o.2.2 _ P);clear g P;refine Jb rfl rfl λK hK=>?_;go_simp;go_wp2_with(go_at_call 46;refine I.o.mono ?_;rintro e w5 ⟨v5,rfl,M,d⟩)
    obtain⟨_,q,s,t,x,_,A,B⟩:=b.o;exact⟨_,_,_,_,_,_,_,_,rfl,J ⟨λ_=>rfl,q,s,λh=>(t h).below d,λh=>(x h).below d,λ_=>M,λh=>(A h).below d,B⟩,J (f.o.below d)⟩
  . have h0:=((Dq b) (g 5 Y));have I:=J (Qd.o V _ h0);clear g h0;refine Jb rfl rfl λK hK=>?_;go_simp;go_wp2_with(go_at_call 26;refine I.o.mono ?_;rintro e w5 ⟨v5,rfl,M,d⟩)
    obtain⟨o,q,s,t,x,z,_,B⟩:=b.o;exact⟨_,_,_,_,_,_,_,_,rfl,J ⟨o,q,s,λh=>(t h).below d,λh=>(x h).below d,λh=>(z h).below d,λ_=>M,B⟩,J (f.o.below d)⟩
  . obtain rfl:=Du b af;have hv:=((Ds b) (g 6 Y));obtain⟨a1,l1,c1,rfl⟩:=Jh.form (show Jh V _ _ from hv);obtain⟨a,l,c,n,r⟩:=f.o.poly2 (i:=1) rfl;have e0:=n.cell;have f0:=n.frozen;clear g;refine Za ?_;obtain⟨o,q,s,t,x,z,A,_⟩:=b.o;exact⟨_,_,_,_,_,_,_,_,rfl,J ⟨o,q,s,λh=>(t h).set1 n rfl _,λh=>(x h).set1 n rfl _,λh=>(z h).set1 n rfl _,λh=>(A h).set1 n rfl _,⟨λh=>by simp at h,λ_=>rfl⟩⟩,J (f.o.putPoly (i:=1) rfl hv)⟩
 rintro D ad V2 S ⟨ta,tb,W,X,te,tf,tg,U,rfl,b,f⟩;obtain rfl:=b.o.2.2.2.2.2.2.2.2 (S 7 DP);obtain rfl:=b.o.1 (S 0 DP);obtain rfl:=b.o.2.1 (S 1 DP);obtain rfl:=b.o.2.2.1 (S 2 DP);clear b S M1;have M2:Hid (Mem w V2 [some (w.heap.size,.cell 25 (C j la k)),some (w.heap.size+1,.poly (GC p))]):=f;clear f;obtain⟨a3,l3,c3,n3,r3⟩:=M2.o.poly2 (i:=1) rfl;have Qh:=n3.cell;have Qg:=J M2.o.2.2;go_wp2_with fail
 exact BA (v:=R #[C a3 l3 c3]) (by simp[results,Tryz.results16,go_sem,Qh]) rfl ⟨_,rfl,r3,Qg.o⟩
theorem iM(K:Nat)(v:N)(p:List Rat)(w:F)(h:RowK false w v p)(b:FrOk K p):
 Calls G 17 #[v] w λe s=>∃u,e=.returned u/\RowK false s u (GC p)/\Bl w s:=by
 obtain⟨a,la,ca,rfl⟩:=h.form;obtain⟨r,M,P,ae,_⟩:=h.formsF;by_cases c:p=[]
 . have ad:(la:Int)=0:=by rw[r,c];rfl
   have t:=J (show RowK false w (C a la ca) (GC p)by rw[c]at h ⊢;exact h);clear h c b;go_enter Tryz.func17,Tryz.ntmps17
   go_wp2_with fail
   go_ret;exact⟨_,rfl,t.o,BB _ _⟩
 . have X:¬(la:Int)=0:=by have:=Ah.2 c;omega
   have A:=b.le;have q:=b.ch.bd;have z:(p.length+3)*(De K p (Je p)+1)=(p.length+1)*(De K p (Je p)+1)+2*(De K p (Je p)+1):=by rw[<-AA]
   have f:=b.ch.gcd;have j:=Xa b.ch.tp b.ch.tq;have i:=XT b.ch.tp b.ch.tq (Or.inl c);have x:=b.ch.ln;have k:Dm p (JC p (Je p))=JM p (JC p (Je p)):=BC i;obtain⟨m,o,n⟩:=Di (dX _ p w h (b.cd.sqs q.1) O) (λ(V:F) (l:Bl w V) (y:N) (d:RowK false V y (Je p))=>To K _ y p (Je p) V (h.below l) d b.ch) λ(V:F) (l:Bl w V) (y:N) (d:RowK false V y (JC p (Je p)))=>PV (De K p (Je p)) _ y p (JC p (Je p)) V (h.below l) d b.cd f b.ch.tp (J1 _ _) i j O O;have g:=J (λ(V:F) (y:N) (d:RowK false V y (JM p (JC p (Je p))))=>iJ ((p.length+1)*(De K p (Je p)+1)) y (JM p (JC p (Je p))) V d (Yw _ _) (by rw[<-k];exact b.cd.ov f (J1 _ _) j) O (by
    have W:(JM p (JC p (Je p))).length<=p.length:=by
     unfold JM;refine As (JG _) ?_;rw[(Xe _ _ _ _ _).1];omega
    omega))
   rw[show Jt (JM p (JC p (Je p)))=GC p by unfold GC;rw[k]]at g;clear h c b A q z f j i x k r M P;go_enter Tryz.func17,Tryz.ntmps17
   go_wp2_with(first
    |(go_at_call 47;refine m.o.mono ?_;clear m;rintro e w1 ⟨u1,rfl,Q,hq⟩)
    |(go_at_call 13;refine(o.o _ hq _ Q).mono ?_;clear o;rintro e w2 ⟨u2,rfl,S,B⟩;have hq:=Bt hq B)
    |(go_at_call 41;refine(n.o _ hq _ S).mono ?_;clear n;rintro e w3 ⟨u3,v3,rfl,T,af,D⟩;have hq:=Bt hq D)
    |(go_at_call 40;refine(g.o _ _ T).mono ?_;clear g;rintro e w4 ⟨u4,rfl,U,I⟩;have hq:=Bt hq I))
   go_ret;exact⟨_,rfl,U,hq⟩
end M3
end
open Go.RowKit Go.Shelf
variable{r:Bool}{p:List Rat}{cs:List N}{B base c l t:Nat}{a:Option Addr}{v:N}{W W':F}
theorem Tryz.infoPart:(Tryz.prog.info? 44).map (λi=>(i.zero,i.size,i.bytes))=some (some (R #[C none 0 0,H .i64 0]),2,32):=by kernel_rfl
theorem Tryz.infoRPart:(Tryz.prog.info? 46).map (λi=>(i.zero,i.size,i.bytes))=some (some (R #[C none 0 0,H .i64 0]),2,32):=by kernel_rfl
def EQ(r:Bool):TypeId:=match r with|true=>44|false=>46
def Gw(r:Bool):TypeId:=match r with|true=>39|false=>41
def zP:Array N:=#[C none 0 0,H .i64 0]
theorem iN(r:Bool):Tryz.prog.underlying (Gw r)=some (.slice (EQ r)):=by
 cases r with
 |true=>exact Tryz.underlying39
 |false=>exact Tryz.underlying41
theorem iO(r:Bool):∃i,Tryz.prog.info? (EQ r)=some i/\i.zero=some (R zP)/\i.size=2/\i.bytes=32:=by
 cases r with
 |true=>
  obtain⟨i,a,b,c,d⟩:=Br Tryz.infoPart;exact⟨i,a,b,c,d⟩
 |false=>
  obtain⟨i,a,b,c,d⟩:=Br Tryz.infoRPart;exact⟨i,a,b,c,d⟩
def Hp(r:Bool)(W W':F):Prop:=∀B,B<W.heap.size->(∀cs m,W.heap[B]?≠some (E cs (EQ r) m))->W'.heap[B]?=W.heap[B]?
theorem Hp.at(h:Hp r W W'){cs:Array N}{t:TypeId}{m:Nat × Nat}(a:W.heap[B]?=some (E cs t m))(b:t≠EQ r):W'.heap[B]?=W.heap[B]?:=
 h B (Ab.1 a).1 λc d e=>by
  rw[a]at e;simp only[Ag,Bn]at e;exact b e.2.1
theorem iP(k:IntKind)(r:Bool):N0 k≠EQ r:=by cases r<;>cases k<;>decide
theorem iQ(k:Bool)(r:Bool):EI k≠EQ r:=by cases r<;>cases k<;>decide
theorem Hp.row(h:Hp r W W'){k:IntKind}{ds:List Nat}(q:Row k W v ds):Row k W' v ds:=by
 obtain⟨a,c,e,g1,g2,l,d⟩:=q;refine⟨a,c,e,g1,g2,l,?_⟩;rcases d with d|⟨b,off,i,g,o⟩
 . exact Or.inl d
 . obtain⟨cs,m,n⟩:=id g;have f:=h.at n (iP k r);refine Or.inr ⟨b,off,i,g.of f,λj p=>?_⟩;rw[<-o j p];simp only[World.cell?,f]
theorem Hp.rowK(h:Hp r W W'){k:Bool}{qs:List Rat}(A:RowK k W v qs):RowK k W' v qs:=by
 obtain⟨a,cap,e,o,p,q,c⟩:=A;refine⟨a,cap,e,o,p,q,?_⟩;rcases c with c|⟨b,n,cs,d,t⟩
 . exact Or.inl c
 . refine Or.inr ⟨b,n,cs,(h.at d (iQ k r)).trans d,λj w=>?_⟩;obtain⟨x,y,z,u,f,i,l,m,s⟩:=t j w;exact⟨x,y,z,u,f,i,l,m,s.keep λ_ _ _ g=>h.row g⟩
def Gx(r:Bool)(W:F)(cs:List N)(L:List (List Rat × Nat)):Prop:=
 cs.length=L.length*2/\∀j p t,L[j]?=some (p,t)->∃x,cs[j*2]?=some x/\cs[j*2+1]?=some (.int .i64 (t:Int))/\RowK r W x p
theorem Gx.keep{L:List (List Rat × Nat)}(h:Gx r W cs L)(d:∀v qs,RowK r W v qs->RowK r W' v qs):Gx r W' cs L:=by
 refine⟨h.1,λj p t e=>?_⟩;obtain⟨x,a,b,c⟩:=h.2 j p t e;exact⟨x,a,b,d _ _ c⟩
theorem Gx.below{r:Bool}{W W':F}{cs:List N}{L:List (List Rat × Nat)}(h:Gx r W cs L)(a:Bl W W'):Gx r W' cs L:=h.keep λ_ _ g=>g.below a
theorem Gx.snoc{L:List (List Rat × Nat)}(h:Gx r W cs L){x:N}(k:RowK r W x p):Gx r W (cs++[x,H .i64 (t:Int)]) (L++[(p,t)]):=by
 refine⟨by simp[h.1];omega,λj l m e=>?_⟩;by_cases i:j<L.length
 . rw[AN i]at e;obtain⟨y,b,c,f⟩:=h.2 j l m e;exact⟨y,by rw[AN (by have:=h.1;omega)];exact b,by rw[AN (by have:=h.1;omega)];exact c,f⟩
 . rw[AD O]at e;obtain⟨d,g⟩:=ex (j-L.length);rw[g]at e;cases d with
   |succ d=>simp at e
   |zero=>
    simp at e;obtain⟨rfl,rfl⟩:=e;have a:j=L.length:=O
    subst a;refine⟨x,?_,?_,k⟩
    . rw[AD (by have:=h.1;omega),h.1,A6];rfl
    . rw[AD (by have:=h.1;omega),h.1,show L.length*2+1-L.length*2=1 by omega];rfl
def XQ(r:Bool)(base:Nat)(W:F)(v:N)(L:List (List Rat × Nat)):Prop:=
 (v=C none 0 0/\L=[])\/∃g cap a,v=C (some ⟨g,0,none⟩) L.length cap/\base<=g/\W.heap[g]?=some (E a (EQ r) (0,0))/\L.length<=cap/\cap<=maxLen/\a.size=cap*2/\Gx r W (a.toList.take (L.length*2)) L
theorem XQ.nil(r:Bool)(base:Nat)(W:F):XQ r base W (C none 0 0) []:=Or.inl ⟨rfl,rfl⟩
theorem XQ.below{r:Bool}{base:Nat}{W W':F}{v:N}{L:List (List Rat × Nat)}(h:XQ r base W v L)(b:Bl W W'):XQ r base W' v L:=by
 rcases h with h|⟨g,cap,c,d,e,a,f,i,j,k⟩
 . exact Or.inl h
 . exact Or.inr ⟨g,cap,c,d,e,(b.block g (Ab.1 a).1).trans a,f,i,j,k.below b⟩
theorem XQ.form{L:List (List Rat × Nat)}(h:XQ r base W v L):∃a c,v=C a L.length c/\L.length<=c/\c<=maxLen:=by
 rcases h with⟨rfl,rfl⟩|⟨g,cap,e,rfl,_,_,b,d,_⟩
 . exact⟨none,0,rfl,Y,by unfold maxLen;omega⟩
 . exact⟨_,cap,rfl,b,d⟩
theorem XQ.set{L:List (List Rat × Nat)}(h:XQ r base W v L)(b:Boxed W B 25 (C a l c)){u:N}(s:∀v qs,RowK r W v qs->RowK r (W.setCell ⟨B,0,none⟩ u) v qs):XQ r base (W.setCell ⟨B,0,none⟩ u) v L:=by
 rcases h with h|⟨g,cap,i,j,k,d,m,n,o,p⟩
 . exact Or.inl h
 . have f:g≠B:=λe=>by
    subst e;have q:W.heap[g]?=some (E #[C a l c] 25 (0,0)):=b;rw[q]at d;simp only[Ag,Bn]at d;have:=d.2.1;revert this;cases r<;>decide
   exact Or.inr ⟨g,cap,i,j,k,(BD W ⟨B,0,none⟩ u g f).trans d,m,n,o,p.keep s⟩
theorem Tu(r:Bool)(base:Nat)(W:F)(v:N)(L:List (List Rat × Nat))(h:XQ r base W v L)(hx:RowK r W (C a l c) p)(hl:L.length+1<=1099511627776)(T:base<=W.heap.size):
 ∃v' z,(Builtin.append_ #[Gw r,Gw r] (Gw r) #[v,C (some ⟨W.heap.size,0,none⟩) 1 1]).run G (W.alloc (E #[C a l c,H .i64 (t:Int)] (EQ r)))=.ok v' z/\XQ r base z v' (L++[(p,t)])/\Hp r W z/\(∀n w0,n<=base->Below n w0 W->Below n w0 z)/\W.heap.size<=z.heap.size:=by
 obtain⟨i,V,hz,y,ae⟩:=iO r;have X:=iN r;have k:Bl W (W.alloc (E #[C a l c,H .i64 (t:Int)] (EQ r))):=Ba W _;obtain⟨b,ad⟩:=ex (W.alloc (E #[C a l c,H .i64 (t:Int)] (EQ r)));have Qf:b.heap[W.heap.size]?=some (E #[C a l c,H .i64 (t:Int)] (EQ r) (0,0)):=by rw[<-ad];exact BE W _
 rw[ad]at k ⊢;have Ql:=hx.below k;have I:∀j c',[Value.slice a l c,H .i64 (t:Int)][j]?=some c'->b.cell? ((⟨W.heap.size,0,none⟩:Addr).add j)=some c':=λj c' f=>by
  rw[Xl,Cc];exact cell_of Qf (by simpa using f)
 have Qh:∀c'∈[Value.slice a l c,H .i64 (t:Int)],c'.oneCell'=true:=λc' f=>by
  simp at f;rcases f with rfl|rfl<;>rfl
 have Qk:(Value.agg zP).cells=zP:=rfl;have Qp:zP.size=2:=rfl;have grown:∀(cs:List N) (w:Nat) (m:Nat),m=L.length+1->Gx r b (cs++[C a l c,H .i64 (t:Int)]) (L++[(p,t)])->cs.length=L.length*2->
  XQ r base (b.drew.alloc (E (cs.toArray++[Value.slice a l c,H .i64 (t:Int)].toArray++Builtin.zeroCells zP (grownCap b m w (EQ r)-m)) (EQ r))) (C (some ⟨b.heap.size,0,none⟩) m (grownCap b m w (EQ r))) (L++[(p,t)]):=by
  intro cs w m hm f x;subst hm;have Qm:=grownCap_ge b (L.length+1) w (EQ r);have Qq:=grownCap_le_maxLen b (L.length+1) w (EQ r) (by unfold maxLen;omega);have Qr:Bl b (b.drew.alloc (E (cs.toArray++[Value.slice a l c,H .i64 (t:Int)].toArray++Builtin.zeroCells zP (grownCap b (L.length+1) w (EQ r)-(L.length+1))) (EQ r))):=((BB _ b).drew).alloc (Aa _) _;refine Or.inr ⟨b.heap.size,_,_,by rw[Aj];rfl,As T k.size,BE b.drew _,by rw[Aj];exact Qm,Qq,?_,?_⟩
  . simp only[Array.size_append,Ao,size_zeroCells,Qp,x,An,AG];omega
  . have e:(cs.toArray++[Value.slice a l c,H .i64 (t:Int)].toArray++Builtin.zeroCells zP (grownCap b (L.length+1) w (EQ r)-(L.length+1))).toList.take ((L++[(p,t)]).length*2)=cs++[C a l c,H .i64 (t:Int)]:=by
     simp only[Array.toList_append];have K:(L++[(p,t)]).length*2=(cs++[Value.slice a l c,H .i64 (t:Int)]).length:=by simp;omega
     rw[K];exact List.take_left
    rw[e];exact f.below Qr
 have fin:∀o,Hp r W (b.drew.alloc o)/\(∀n w0,n<=base->Below n w0 W->Below n w0 (b.drew.alloc o))/\W.heap.size<=(b.drew.alloc o).heap.size:=λo=>by
  have M:Bl W (b.drew.alloc o):=(k.drew).alloc (by exact k.size) _;exact⟨λB D _=>M.block B D,λn w0 u S=>S.trans (M.mono (As u T)),M.size⟩
 rcases h with⟨rfl,rfl⟩|⟨g,cap,d,rfl,h2,Q,h4,h5,h6,h7⟩
 . have s:=run_append_nil (P:=G) b (Gw r) (Gw r) (EQ r) i _ X V hz ⟨W.heap.size,0,none⟩ 1 1 [C a l c,H .i64 (t:Int)] (by rw[y];rfl) I O O (by rw[ae];omega);rw[Qk]at s;refine⟨_,_,s,?_,fin _⟩;have:=grown [] 0 1 rfl (by rw[Ap];exact Gx.snoc (cs:=[]) (L:=[]) ⟨rfl,λj p t e=>by simp at e⟩ Ql) rfl;simpa using this
 . have A:b.heap[g]?=some (E d (EQ r) (0,0)):=(k.block g (Ab.1 Q).1).trans Q;have x:(d.toList.take (L.length*2)).length=L.length*2:=by rw[Am];have h0:d.toList.length=d.size:=CO;omega
   have Qj:=(h7.below k).snoc (t:=t) Ql;by_cases af:L.length+1<=cap
   . have s:=run_append_room (P:=G) b (Gw r) (Gw r) (EQ r) i X V g L.length cap d A ⟨W.heap.size,0,none⟩ 1 1 [C a l c,H .i64 (t:Int)] (by rw[y];rfl) I Qh af (by rw[y];simp;omega);rw[y]at s;obtain⟨q,U⟩:=ex ((d.toList.take (L.length*2)++[Value.slice a l c,H .i64 (t:Int)]++d.toList.drop (L.length*2+[Value.slice a l c,H .i64 (t:Int)].length)).toArray);rw[U]at s;have Qo:=setRow_heap b g d q (EQ r) (0,0) A;have Qd:Hp r b (b.setRow g q):=λB D u=>setRow_other b g B q λe=>u d (0,0) (by rw[e];exact A);have Qg:b.heap.size<=(b.setRow g q).heap.size:=(below_setRow (B:=0) (BB _ b) (AC _) q).size;refine⟨_,_,s,?_,λB D u=>?_,λn w0 u S=>below_setRow (S.trans (k.mono (As u T))) (As u h2) q,As k.size Qg⟩
     . refine Or.inr ⟨g,cap,q,by rw[Aj];rfl,h2,Qo,by rw[Aj];exact af,h5,?_,?_⟩
       . rw[<-U];simp only[Ao,Aj,AX,x,An,AG];have h0:d.toList.length=d.size:=CO;omega
       . have e:q.toList.take ((L++[(p,t)]).length*2)=d.toList.take (L.length*2)++[C a l c,H .i64 (t:Int)]:=by
          rw[<-U];have K:(L++[(p,t)]).length*2=(d.toList.take (L.length*2)++[Value.slice a l c,H .i64 (t:Int)]).length:=by simp[x];omega
          rw[K];exact List.take_left
         rw[e];exact Qj.keep λ_ _ g=>Qd.rowK g
     . have Qn:B≠g:=λe=>u d (0,0) (by rw[e];exact Q);exact(setRow_other b g B q Qn).trans (k.block B D)
   . have ah:∀j c',(d.toList.take (L.length*2))[j]?=some c'->b.cell? ((⟨g,0,none⟩:Addr).add j)=some c':=λj c' f=>by
      rw[Xl,Cc];rw[Fv]at f;split at f
      . rw[Cr]at f;exact cell_of A f
      . cases f
     have s:=run_append_grow (P:=G) b (Gw r) (Gw r) (EQ r) i _ X V hz ⟨g,0,none⟩ L.length cap (d.toList.take (L.length*2)) (by rw[y];exact x) ah ⟨W.heap.size,0,none⟩ 1 1 [C a l c,H .i64 (t:Int)] (by rw[y];rfl) I O O (by rw[ae];exact growslice_fits O O);rw[Qk]at s;exact⟨_,_,s,grown _ cap _ rfl Qj x,fin _⟩
namespace M3
theorem Mem.farP{w W W':F}{bs:List (Option (Nat × Dat))}{r:Bool}(M:Mem w W bs)(a:Hp r W W')(e:Bl w W')(f:∀(i:Nat) B d,bs[i]?=some (some (B,d))->d.ty≠EQ r):Mem w W' bs:=by
 refine⟨λi B d h=>?_,M.2.1,e⟩;obtain⟨⟨cs,b,c⟩,j⟩:=M.1 i B d h;exact⟨⟨cs,(a.at b (f i B d h)).trans b,c.keep (λ_ _ _ g=>a.row g) (Or.inr λ_ _ g=>a.rowK g)⟩,j⟩
end M3

