import Derived.Test.YteldjhhjnchdeaaGreatDoorV45
open Go.Value renaming slice->C,pointer->L,agg->R,int->H
open Go renaming World->F,Value->N
open Go.Proofs.Tryz renaming prog->G
open Go.Obj renaming cells->E
set_option maxRecDepth 100000
set_option maxHeartbeats 16000000
namespace Go.Proofs.YteldjhhjnchdeaaGreatDoor
namespace M3
open Go.RowKit Go.Shelf
attribute [local go_sem] Oper.semAt_some
variable{a p ps q:List Rat}{B K l:Nat}{v:N}{W w:F}
theorem eP(n:Nat)(a d:Option Addr)(c b g f:Nat)(w:F):
 CallsIn Fence.wide n G 25 #[R #[C a c b],R #[C d g f]] w λe i=>e=.returned (.func (.func 55) #[] #[L (some ⟨w.heap.size,0,none⟩),L (some ⟨w.heap.size+1,0,none⟩)])/\i=(w.alloc (E #[C a c b] 25)).alloc (E #[C d g f] 25):=by
 refine B0 Tryz.func25 rfl trivial ?_ rfl;simp only[Tryz.ntmps25,An,Am,AD,Nat.reduceAdd,Nat.reduceSub,AF,AG,AZ,AN,Ao,AA];gi_wp2;go_ret;exact⟨rfl,rfl⟩
def St(B:Nat)(I:List (List Rat)->F->Prop)(H:List (List Rat))(W:F):Exit->Act->F->Prop
 |.normal,_,W'=>I H W'/\W.heap.size<=W'.heap.size/\(∀(k:Nat) (o:Obj),B<=k->W.heap[k]?=some o->W'.heap[k]?=some o)/\∀v ps,Jg W v ps->Jg W' v ps
 |_,_,_=>False
theorem Su{W':F}{row:Option Nat}(a:W.grownBy W' row)(b:∀r,row=some r->∃o:Obj,W.heap[r]?=some o/\o.isCells=false)(h:Jg W v ps):Jg W' v ps:=by
 obtain⟨u,e,h⟩:=h;exact⟨u,e,Ir a b h⟩
theorem Mn{o a:Obj}(hl:W.heap[l]?=some o)(b:o.isCells=false)(h:Jg W v ps):Jg (W.putObj l a) v ps:=
 Su (BV W l a) (λr e=>by cases e;exact⟨o,hl,b⟩) h
theorem eQ{g:Operand}{ps:Array Tmp}{assign body:Code}{Q:Exit->Act->F->Prop}{a:Act}{w:F}{n:Nat}
(h1:2<=n){K S T:Nat}{pa qa:Option Addr}{pl pc ql qc:Nat}{p q:List Rat}(bc:ChOk K p q)(an:Dt w S pa pl pc)(ap:Dt w T qa ql qc)(ip:Jg w (R #[C pa pl pc]) p)(iq:Jg w (R #[C qa ql qc]) q)
(hg:a.eval g=.func (.func 55) #[] #[L (some ⟨S,0,none⟩),L (some ⟨T,0,none⟩)])(eg:∀args w,(callFunc 55 args).run G w=.ok (.enter 55 args) w)(bf:ps.size=1)
(I:List (List Rat)->F->Prop)(hI:OwnFrom w.heap.size I)(af:GB I)(aj:GS w.heap.size I)(h0:I [] w)(a₁:N->Nat->Act)
(ak:∀(l:Nat) (x:Option Addr) (o m:Nat) (W:F) (K:Act->F->Prop),K (a₁ (C x o m) W.heap.size) (W.alloc (E #[C x o m] 25))->
  assign.wpIn (Fence.wide.inRound l) (n-1-1) G (Exit.then K λ_ _ _=>False) { tmps:=(ps.zip #[R #[C x o m]]).foldl (λt (p,v)=>t.setIfInBounds p v) a.tmps,defers:=[] } W)
(am:∀(l b:Nat) (x:Option Addr) (o m:Nat) (r:List Rat) (H:List (List Rat)) (W:F),I H W->w.heap.size+1<b->Dt W b x o m->Jg W (R #[C x o m]) r->
  body.wpIn (Fence.wide.inRound l) (n-1-1) G (St w.heap.size I (H++[r]) W) (a₁ (C x o m) b) W)
(aw:∀(D:Nat) (W:F) (H:List (List Rat)) (r:List Rat),w.heap.size<=D->I (H++[r]) W->LJ p q=H++[r]->Chn p q (De K p q) r []->W.heap[D]?=some (.deferred (some []))->Q .normal { a with defers:={ target:=.collected D,args:=#[] }::a.defers } W):
 (Code.rangeFunc g ps assign body).wpIn Fence.wide n G Q a w:=by
 refine wpIn_rangeFunc λfn ay=>?_;rw[show Fence.wide.round=none from rfl];obtain⟨rc,z⟩:∃rc:LoopState->Option Code->Loop,rc=λst pe=>{ state:=st,pending:=pe,fn,tmps:=a.tmps,params:=ps,assign,body,defers:=w.heap.size }:=⟨_,rfl⟩;obtain⟨V,A⟩:=ex ((w.alloc (.deferred (some []))).alloc (.loop (rc .ready none)));have vL:V.heap[w.heap.size+1]?=some (.loop (rc .ready none)):=by
  rw[<-A];have:=BE (w.alloc (.deferred (some []))) (.loop (rc .ready none));rwa[A1]at this
 have vD:V.heap[w.heap.size]?=some (.deferred (some [])):=by
  rw[<-A];exact(Bh _ _ _ O).trans (BE w _)
 have vI:I [] V:=by rw[<-A];exact hI.alloc _ (hI.alloc _ h0)
 have Qe:Bl w V:=by rw[<-A];exact(Ba w _).alloc (by rw[A1];omega) _
 have bk:V.heap.size=w.heap.size+2:=by rw[<-A];simp
 refine⟨w.heap.size+1,[{ target:=.collected w.heap.size,args:=#[] }],V,{ target:=.fn (.func 55) #[L (some ⟨S,0,none⟩),L (some ⟨T,0,none⟩)],args:=#[.func (.yield (w.heap.size+1)) #[] #[]] },V,55,
  #[.func (.yield (w.heap.size+1)) #[] #[]]++#[L (some ⟨S,0,none⟩),L (some ⟨T,0,none⟩)],V,?_,?_,?_,?_,λ_=>by omega,?_⟩
 . rw[<-A,z];exact run_enterLoop_outer _ _ _ _ _
 . simp only[resolve,hg];simp[go_sem]
 . intro f' ah;simp[Target.leads]at ah;subst ah;exact trivial
 . simp[invoke,go_sem,eg]
 refine(eO K (n-1) Y S T pa qa pl pc ql qc p q bc (w.heap.size+1) (w.heap.size+2)
  (λH W=>I H W/\W.heap[w.heap.size+1]?=some (.loop (rc .ready none))/\W.heap[w.heap.size]?=some (.deferred (some [])))
  V Y (an.below Qe) (ap.below Qe) (ip.below Qe) (iq.below Qe) ?_ ?_ ?_ ⟨vI,vL,vD⟩).mono ?_
 . rintro H W W' ⟨y,hl,d⟩ hb;exact⟨af _ _ _ y hb,(hb.block _ (Ab.1 hl).1).trans hl,(hb.block _ (Ab.1 d).1).trans d⟩
 . rintro H W B x o m u hB hb ⟨y,hl,d⟩;exact⟨aj _ _ _ _ _ _ _ Y hb y,(BD W ⟨B,0,none⟩ u _ (by show w.heap.size+1≠B;omega)).trans hl,(BD W ⟨B,0,none⟩ u _ (by show w.heap.size≠B;omega)).trans d⟩
 . rintro H W B4 B5 i j c4 a5 l5 c5 p4 q5 bi bj bg bh ⟨y,hl,d⟩ h4 h5 i4 i5;have Qf:w.heap.size+1<W.heap.size:=(Ab.1 hl).1;have hy:=run_yield (P:=G) (args:=#[R #[C i j c4]]) hl (by rw[z];exact bf.symm);rw[z]at hy;obtain⟨f,ae⟩:=ex (W.alloc (E #[C i j c4] 25));have s:Bl W f:=by rw[<-ae];exact Ba W _
   have X:f.heap[w.heap.size+1]?=some (.loop (rc .ready none)):=(s.block _ Qf).trans hl;have Ql:f.heap[w.heap.size]?=some (.deferred (some [])):=(s.block _ Y).trans d;have Qj:I H f:=af _ _ _ y s;have Qh:Dt f W.heap.size i j c4:=by rw[<-ae];exact BM W 25 (C i j c4)
   refine⟨fn,_,assign,body,hy,roundIn_of_wpIn ay (ak _ _ _ _ W _ ?_)⟩;rw[ae];refine⟨_,run_beginRound X (by rw[z]),?_⟩;obtain⟨bx,aq⟩:=ex (W.heap.size);have Qu:=h4.below s;have Qr:=h5.below s;have Qv:=i4.below s;have Qn:=i5.below s;rw[aq]at Qh Qf bg bh ⊢;have Qg:w.heap.size+1<f.heap.size:=(Ab.1 X).1;obtain⟨c,M⟩:=ex (f.putObj (w.heap.size+1) (.loop { rc .ready none with state:=.busy }));rw[M];have Qo:c.heap[w.heap.size+1]?=some (.loop { rc .ready none with state:=.busy }):=by rw[<-M];exact Bk Qg
   have Qd:∀k,k≠w.heap.size+1->c.heap[k]?=f.heap[k]?:=λk d=>by rw[<-M];exact BT Y
   have Qt:Dt c bx i j c4:=(Qd bx Y).trans Qh;have Qk:c.heap[w.heap.size]?=some (.deferred (some [])):=(Qd _ Y).trans Ql;have Qp:I H c:=by rw[<-M];exact hI.putObj _ Qj Y X rfl
   have Qq:Dt c B4 i j c4:=(Qd B4 Y).trans Qu;have Qw:Dt c B5 a5 l5 c5:=(Qd B5 Y).trans Qr;have Qi:Jg c (R #[C i j c4]) p4:=by rw[<-M];exact Mn X rfl Qv
   have Qs:Jg c (R #[C a5 l5 c5]) q5:=by rw[<-M];exact Mn X rfl Qn
   refine wpIn_mono (am _ bx i j c4 p4 H c Qp Qf Qt Qi) λe a3 W3 hp=>?_;cases e with
   |normal=>
    obtain⟨az,bm,ad,ai⟩:=hp;have U:=ad _ _ Y Qo;have hr:=run_endRound (P:=G) none U;have Qa:∀k,k≠w.heap.size+1->(W3.putObj (w.heap.size+1) (.loop (rc .ready none))).heap[k]?=W3.heap[k]?:=λk d=>BT Y;have Qm:(Instr.endRound (w.heap.size+1) none).run G W3=.ok (.bool true) (W3.putObj (w.heap.size+1) (.loop (rc .ready none))):=by
     rw[z]at hr ⊢;exact hr
    exact⟨_,_,Qm,rfl,⟨hI.putObj _ az Y U rfl,Bk (Ab.1 U).1,(Qa _ Y).trans (ad _ _ (Aa _) Qk)⟩,
     (Qa _ Y).trans (ad _ _ Y Qq),(Qa _ Y).trans (ad _ _ Y Qw),Mn U rfl (ai _ _ Qi),Mn U rfl (ai _ _ Qs)⟩
   |ret=>exact hp.elim
   |exit id=>exact hp.elim
   |goto t=>exact hp.elim
   |panic ch=>exact hp.elim
   |outgrown=>exact hp.elim
 . rintro e c ⟨⟨v,rfl⟩,H,r,⟨y,hl,d⟩,hc,hn⟩;exact⟨none,_,by have:=run_endLoop (P:=G) hl (by rw[z];simp);rw[z]at this;exact this,aw _ _ H r (Aa _) (hI.putObj _ y Y hl rfl) hc hn ((BT Y).trans d)⟩
theorem Mem.setFar{V:F}{bs:List (Option (Nat × Dat))}(M:Mem w V bs)(f:w.heap.size<=B){a:Option Addr}{c:Nat}(g:Dt V B a l c)(j:∀(i:Nat) B' d,bs[i]?=some (some (B',d))->B'≠B)(u:N):Mem w (V.setCell ⟨B,0,Option.none⟩ u) bs:=by
 refine⟨λi B' d h=>?_,M.2.1,M.2.2.setCell (p:=⟨B,0,Option.none⟩) f u⟩;obtain⟨⟨cs,b,e⟩,k⟩:=M.1 i B' d h;exact⟨⟨cs,b.far (p:=⟨B,0,Option.none⟩) (j i B' d h) u,e.set1 g rfl u⟩,k⟩
def IA(w:F)(a d:Option Addr)(c b f e:Nat)(H:List (List Rat)):List (Option (Nat × Dat)):=
 [some (w.heap.size,.cell 25 (C a c b)),some (w.heap.size+1,.cell 25 (C d f e)),some (w.heap.size+1+1,.cell 25 (C none 0 0)),some (w.heap.size+1+1+1,.poly (H.getLastD []))]
theorem eR{a f:Option Addr}{c b j g:Nat}{H:List (List Rat)}{i:Nat}{d:Dat}(e:(IA w a f c b j g H)[i]?=some (some (B,d))):B<=w.heap.size+1+1+1:=by
 unfold IA at e;rcases i with _|_|_|_|i<;>simp at e<;>omega
theorem Oj(K:Nat)(va vb:N)(p q:List Rat)(w:F)(ha:Jg w va p)(y:Jg w vb q)(af:ChOk K p q):
 Calls G 8 #[va,vb] w λe U=>∃u,e=.returned u/\Jg U u (JZ p q)/\Bl w U:=by
 obtain⟨f,j,g,rfl⟩:=ha.form;obtain⟨m,t,s,rfl⟩:=y.form;have M0:Mem w _ _:=((((Mem.nil w).push (.cell 25 (C f j g)) (cs:=#[C f j g]) ⟨rfl,rfl⟩).push (.cell 25 (C m t s)) (cs:=#[C m t s]) ⟨rfl,rfl⟩).push (.cell 25 (C none 0 0)) (cs:=#[C none 0 0]) ⟨rfl,rfl⟩).push (.poly []) (cs:=#[C none 0 0]) (He _);simp only[A1]at M0;obtain⟨W0,ad⟩:=ex ((((w.alloc (E #[C f j g] 25)).alloc (E #[C m t s] 25)).alloc (E #[C none 0 0] 25)).alloc (E #[C none 0 0] 25));have M1:Mem w W0 (IA w f m j g t s []):=by rw[<-ad];exact M0
 have hN:W0.heap.size=w.heap.size+1+1+1+1:=by rw[<-ad];simp
 obtain⟨Qe,Qg,HN,HP,HQ,Qm⟩:=Kq ad M1 hN (λ(V:F) (hB:Bl w V)=>ha.below hB) (λ(V:F) (hB:Bl w V)=>y.below hB) af;have Qj:=J (λ(V:F) (x:N) (r:List Rat) (hx:Jg V x r) (hc:Chn p q (De K p q) r [])=>show Calls G 26 #[x] V λe U=>∃u,e=.returned u/\Jg U u (JZ p q)/\Bl V U by
  have Qb:=af.bd;have h1:=Sr x r V hx (DZ.of λi=>Sq.of (hc.wa.smq Qb.2.2.2 i) Qb.1) hc.ta (λi=>by
   have h2:=Ln.sqs hc.ta hc.wa.ln Qb.2.2.2 i;unfold JF at h2;rw[Y6,Fm,Rat.one_mul,<-Fm]at h2;exact Sq.of h2 Qb.1)
  rw[<-hc.gc,Oe];exact h1)
 clear ha y af M0 M1 ad hN;refine(BJ (n:=3)).1 ?_;refine BU Tryz.func8 rfl trivial ?_ rfl;simp only[Tryz.ntmps8,An,Am,AD,Nat.reduceAdd,Nat.reduceSub,AF,AG,AZ,AN,Ao,AA];gi_wp2_with fail
 rw[Qe.o];refine⟨trivial,?_⟩;refine(eP _ _ _ _ _ _ _ _).mono ?_;rintro e U ⟨rfl,rfl⟩;obtain⟨z,T⟩:=ex ((W0.alloc (E #[C f j g] 25)).alloc (E #[C m t s] 25));have Qi:Bl W0 z:=by rw[<-T];exact(Ba W0 _).alloc (by rw[A1];omega) _
 have nP:Dt z W0.heap.size f j g:=by rw[<-T];exact(BM W0 25 (C f j g)).alloc _
 have nQ:Dt z (W0.heap.size+1) m t s:=by
  rw[<-T];have:=BM (W0.alloc (E #[C f j g] 25)) 25 (C m t s);rwa[A1]at this
 have M2:=Mem.below Qg.o Qi;have Qf:z.heap.size=w.heap.size+6:=by rw[<-T];simp[HN.o]
 rw[T,HN.o];rw[HN.o]at nP nQ;obtain⟨Qc,Ql,Qn,S⟩:=EB M2 nP nQ Qf;clear M2 nP nQ Qf Qi T Qe HN Qg;gi_wp2_with fail
 refine eQ Y Qm.o Ql.o Qn.o (HP.o z Qc.o.2.2) (HQ.o z Qc.o.2.2) rfl (DF Tryz.func55 (by kernel_rfl) rfl) rfl
  (λH W=>Mem w W (IA w f m j g t s H)) (λH W W' row M hg hr=>Mem.own M hg λr e=>⟨by have:=(hr r e).1;have:=S.o;omega,(hr r e).2⟩) (λH W W' M y=>Mem.below M y)
  (λH W B a l c u hB y M=>Mem.setFar M (by have:=S.o;omega) y (λi B' d e=>by have:=eR e;have:=S.o;omega) u) Qc.o
  (λv b=>{ tmps:=#[R #[C f j g],R #[C m t s],L (some ⟨w.heap.size,0,none⟩),L (some ⟨w.heap.size+1,0,none⟩),L (some ⟨w.heap.size+1+1,0,none⟩),L (some ⟨w.heap.size+1+1+1,0,none⟩),L (some ⟨b,0,none⟩),R #[C f j g],R #[C m t s],.func (.func 55) #[] #[L (some ⟨w.heap.size+1+1+1+1,0,none⟩),L (some ⟨w.heap.size+1+1+1+1+1,0,none⟩)],R #[v],undef,undef,undef],defers:=[] }) ?assign ?body ?done
 case assign=>
  intro l x xl xc W K hK;gi_wp2;exact hK
 case body=>
  intro l b x xl xc r H W M y ai hr;obtain⟨ya,yl,yc,Q,r3⟩:=Mem.poly2 M (i:=3) rfl;have e3:=Q.cell;have f3:=Q.frozen;have eb:=ai.cell;have HH:=J (show ∀ah,St z.heap.size (λH W=>Mem w W (IA w f m j g t s H)) (H++[r]) W .normal ah (W.setCell ⟨w.heap.size+1+1+1,0,none⟩ (C x xl xc))from λah=>by
   refine⟨?_,?_,λk o hk ho=>?_,λv ps h=>h.setB Q⟩
   . have h4:=Mem.putPoly M (i:=3) rfl hr;show Mem w _ (IA w f m j g t s (H++[r]));unfold IA at h4 ⊢;rw[show(H++[r]).getLastD []=r by simp];exact h4
   . rw[World.size_setCell];exact Aa _
   . exact(BD W ⟨w.heap.size+1+1+1,0,none⟩ _ k (by show k≠w.heap.size+1+1+1;have:=S.o;omega)).trans ho)
  clear M y ai hr Q r3;gi_wp2;exact HH.o _
 case done=>
  intro D W H r hD M am aj hK;have Qo:w.heap.size<=D:=by have:=S.o;omega
  have M:Mem w W [some (w.heap.size,.cell 25 (C f j g)),some (w.heap.size+1,.cell 25 (C m t s)),some (w.heap.size+1+1,.cell 25 (C none 0 0)),some (w.heap.size+1+1+1,.poly r)]:=by
   have h4:Mem w W (IA w f m j g t s (H++[r])):=M;unfold IA at h4;rwa[show(H++[r]).getLastD []=r by simp]at h4
  obtain⟨ya,yl,yc,Q,r3⟩:=Mem.poly2 M (i:=3) rfl;have e3:=Q.cell;have n2:=(Mem.cell M (i:=2) rfl).1;obtain⟨HC,Qh,HK⟩:=Dk (Qj.o W _ r r3 aj) M.2.2 hK;clear M am aj hK r3 Q Qj;gi_wp2_with(refine⟨trivial,?_⟩;gi_at_call 26;refine((BJ (n:=_)).2 HC.o).mono ?_;clear HC;rintro e X ⟨u5,rfl,ak,ae⟩;obtain⟨A,P,I,rfl⟩:=ak.form;have n5:=boxed_below n2 ae;have x0:=n5.cell;have x1:=n5.frozen)
  have Qd:(X.setCell ⟨w.heap.size+1+1,0,none⟩ (C A P I)).heap[D]?=some (.deferred (some [])):=by
   rw[BD X ⟨w.heap.size+1+1,0,none⟩ _ D (by show D≠w.heap.size+1+1;have:=S.o;omega)];exact(ae.block D (Ab.1 HK.o).1).trans HK.o
  refine⟨O,.inl ⟨_,_,rfl,Bb Qd,?_⟩⟩;have q:Dt (X.setCell ⟨w.heap.size+1+1,0,none⟩ (C A P I)) (w.heap.size+1+1) A P I:=Dt.put (show Dt X (w.heap.size+1+1) none 0 0 from n5);have hg:=BV (X.setCell ⟨w.heap.size+1+1,0,none⟩ (C A P I)) D (.deferred none);have Qk:∀r,some D=some r->∃o:Obj,(X.setCell ⟨w.heap.size+1+1,0,none⟩ (C A P I)).heap[r]?=some o/\o.isCells=false:=λr e=>by cases e;exact⟨_,Qd,rfl⟩
  have q2:Dt _ (w.heap.size+1+1) A P I:=Xr hg Qk q;have g0:=q2.cell;refine⟨R #[C A P I],by simp[results,Tryz.results8,go_sem,g0],_,rfl,?_,?_⟩
  . exact Su hg Qk (ak.setB n5)
  . exact((Bt Qh.o ae).setCell (p:=⟨w.heap.size+1+1,0,none⟩) (by show w.heap.size<=w.heap.size+1+1;omega) _).trans (DP (w:=w) (Aa _) _ D _ _ Qo Qd rfl rfl)
def KX(w V:F)(a:N)(ps:List Rat):Prop:=RowK false V a ps/\Bl w V
theorem KX.below{w V V':F}{b:N}{ps:List Rat}(h:KX w V b ps)(a:Bl V V'):KX w V' b ps:=⟨h.1.below a,Bt h.2 a⟩
theorem eS(c:Rat):((1:Int):Rat)/c=1/c:=rfl
theorem Sv(va:N)(ps:List Rat)(w:F)(o:RowK false w va ps)(ah:Jd ps=ps)(ae:DZ ps)(af:ps≠[]->Sq (1/cf ps (ps.length-1)))(ay:ps.length<1099511627776):
 Calls G 40 #[va] w λe w'=>∃u,e=.returned u/\RowK false w' u (JF ps)/\Bl w w':=by
 have Qi:Tryz.prog.follows .mixedOrders=true:=by kernel_rfl
 obtain⟨a,la,ca,rfl⟩:=o.form;obtain⟨aw,az,bc,bi,s,t,aa,bb,ll,cc,kk,dd,hc⟩:=o.formsF;by_cases j:ps=[]
 . have Qf:la=0:=by rw[aw,j];rfl
   have HA:=J (show RowK false w (C a la ca) (JF ps)by rw[j]at o ⊢;exact o);clear o hc ae af ah j;go_enter Tryz.func40,Tryz.ntmps40
   go_wp2_with fail
   go_ret;exact⟨_,rfl,HA.o,BB _ _⟩
 . have Qf:¬(la:Int)=0:=by have:=Ar.2 j;omega
   obtain⟨m,hm⟩:=ex (la-1:Nat);have bj:(la:Int)-1=(m:Int):=Y
   have bk:IntKind.i64.wrap (m:Int)=(m:Int):=by rw[BS];omega
   have bm:(m:Int)<(la:Int):=Y
   have Q:ps.length-1=m:=Y
   obtain⟨aq,g,rfl,I,ai,aj,ak,am⟩:=hc m Y;have Qj:=J (show ∀V,Bl w V->(V.cell? ⟨g,m*4,none⟩=some (C (aa m) (ll m) (cc m))/\V.cell? ⟨g,m*4+1,none⟩=some (.bool (s m))/\V.cell? ⟨g,m*4+2,none⟩=some (C (bb m) (kk m) (dd m))/\V.cell? ⟨g,m*4+3,none⟩=some (.bool (t m)))/\Jr V (R #[C (aa m) (ll m) (cc m),.bool (s m),C (bb m) (kk m) (dd m),.bool (t m)]) (cf ps m)from λV B=>by
    exact⟨⟨(B.cell (p:=⟨g,_,none⟩) I).trans ai,(B.cell (p:=⟨g,_,none⟩) I).trans aj,(B.cell (p:=⟨g,_,none⟩) I).trans ak,(B.cell (p:=⟨g,_,none⟩) I).trans am⟩,aq.below B⟩)
   obtain⟨Qg,Qe,Qk,Qd,Qh⟩:=GY (show cf ps m≠0 by rw[<-Q];exact JB ah j) (show Sq (1/cf ps m)by rw[<-Q];exact af j) (show Jd (YL (1/cf ps m) ps)=JF ps by unfold JF Dn;rw[Q]) ae ay;have S:KX w w.drew (C (some ⟨g,0,none⟩) la ca) ps:=KX.below ⟨o,BB _ _⟩ ((BB _ w).drew);have HX:=J S;clear o hc aq I ai aj ak am ae af ah j Q aw az bc ay S;go_enter Tryz.func40,Tryz.ntmps40
   go_upto_region 3 with fail
   obtain⟨bz,ap⟩:=ex (((la:Int)==0));rw[ap];clear ap;have S:=HX.o;refine Jl Qi [[],[],[],[],[3],[4],[2,5],[6],[1,7,1],[0,8,8],[9,9,0,1,2,3,4,5,6,7,8,9]] (by kernel_rfl) DQ
    (λD ad V=>∃(tj tk tl ta tb T U W X tg P:N),ad={ tmps:=#[C (some ⟨g,0,none⟩) la ca,undef,P,C (some ⟨g,0,none⟩) la ca,H .i64 ↑la,.bool bz,undef,tj,tk,tl,ta,tb,T,U,W,X,tg],defers:=[] }/\Hid ((D 0=true->tj=C (some ⟨g,0,none⟩) la ca)/\(D 1=true->Jr V tk ((1:Int):Rat))/\(D 2=true->tl=C (some ⟨g,0,none⟩) la ca)/\(D 3=true->ta=C (some ⟨g,0,none⟩) la ca)/\(D 4=true->tb=H .i64 (la:Int))/\(D 5=true->T=H .i64 (m:Int))/\(D 6=true->U=L (some ⟨g,m*4,none⟩))/\(D 7=true->Jr V W (cf ps m))/\(D 8=true->Jr V X (1/cf ps m))/\(D 9=true->RowK false V tg (JF ps))/\(D 10=true->RowK false V P (JF ps)))/\Hid (KX w V (C (some ⟨g,0,none⟩) la ca) ps))
    (E8 ⟨_,_,_,rfl,J ⟨O,O,O,O,O,O,O,O,O,O,O⟩,J S⟩) ?step1 ?fin1
   case step1=>
    rintro D ad V i ds bg hi d bf ⟨tj,tk,tl,ta,tb,T,U,W,X,tg,P,rfl,c,b⟩;have bh:i<11:=(Ac.1 hi).1;obtain rfl|rfl|rfl|rfl|rfl|rfl|rfl|rfl|rfl|rfl|rfl:=Ew i Y
    all_goals
     simp only[Af,Ae,Ag]at hi;subst hi
    . have l:=b.o;clear d;refine DT ?_;exact⟨(Dg c),J (b.o)⟩
    . have l:=b.o;clear d;have n:=J (Is 1 Y Y V);refine Jb rfl rfl λK hK=>?_;go_simp;go_wp2_with(go_at_call 42;refine n.o.mono ?_;rintro e w5 ⟨v5,rfl,M,f⟩)
      obtain⟨G0,_,r,v,x,y,z,A,G8,G9,q⟩:=c.o;exact E8 ⟨_,_,_,rfl,J ⟨G0,λ_=>M,r,v,x,y,z,λh=>(A h).below f,λh=>(G8 h).below f,λh=>(G9 h).below f,λh=>(q h).below f⟩,J (b.o.below f)⟩
    . have l:=b.o;clear d;refine DT ?_;exact⟨(Df c),J (b.o)⟩
    . have l:=b.o;clear d;refine DT ?_;exact⟨(Dj c),J (b.o)⟩
    . have l:=b.o;obtain rfl:=c.o.2.2.2.1 (d 3 O);clear d;refine DT ?_;exact⟨(Dz (Dj c)),J (b.o)⟩
    . have l:=b.o;obtain rfl:=c.o.2.2.2.2.1 (d 4 O);clear d;refine DT ?_;exact⟨(D0 (Dz c)),J (b.o)⟩
    . have l:=b.o;obtain rfl:=c.o.2.2.1 (d 2 O);obtain rfl:=Dp c (d 5 O);clear d;refine DT ?_;exact⟨(Dx (D0 (Df c))),J (b.o)⟩
    . have l:=b.o;obtain rfl:=Ds c (d 6 O);obtain⟨⟨e0,e1,e2,e3⟩,hr⟩:=Qj.o V l.2;clear d;refine DT ?_;exact⟨(ED (Dx c) λ_=>hr),J (b.o)⟩
    . have l:=b.o;have j:=c.o.2.1 (d 1 O);have h1:=Du c (d 7 O);clear d;have n:=J (RV _ _ ((1:Int):Rat) (cf ps m) V j h1 (Sq.of (k:=1) ⟨Sm.one 1 Y,Sm.one 1 Y⟩ Y) (Qd.o.at m) Qg.o);rw[eS]at n;clear j h1;refine Jb rfl rfl λK hK=>?_;go_simp;go_wp2_with(go_at_call 77;refine n.o.mono ?_;rintro e w5 ⟨v5,rfl,M,f⟩)
      obtain⟨G0,G1,r,v,x,y,z,A,_,G9,q⟩:=c.o;exact E8 ⟨_,_,_,rfl,J ⟨G0,λh=>(G1 h).below f,r,v,x,y,z,λh=>(A h).below f,λ_=>M,λh=>(G9 h).below f,λh=>(q h).below f⟩,J (b.o.below f)⟩
    . have l:=b.o;have j:=D6 c (d 8 O);obtain rfl:=c.o.1 (d 0 O);clear d;have n:=J (RZ _ _ ps (1/cf ps m) V l.1 j Qd.o Qe.o Qh.o);rw[Qk.o]at n;clear j;refine Jb rfl rfl λK hK=>?_;go_simp;go_wp2_with(go_at_call 76;refine n.o.mono ?_;rintro e w5 ⟨v5,rfl,M,f⟩)
      obtain⟨_,G1,r,v,x,y,z,A,G8,_,q⟩:=c.o;exact E8 ⟨_,_,_,rfl,J ⟨λ_=>rfl,λh=>(G1 h).below f,r,v,x,y,z,λh=>(A h).below f,λh=>(G8 h).below f,λ_=>M,λh=>(q h).below f⟩,J (b.o.below f)⟩
    . have l:=b.o;have j:=EE c (d 9 O);clear d;refine DT ?_;exact⟨(Hm c λ_=>j),J (b.o)⟩
   case fin1=>
    rintro D ad V an ⟨tj,tk,tl,ta,tb,T,U,W,X,tg,P,rfl,c,b⟩;have h9:=c.o.2.2.2.2.2.2.2.2.2.2 (an 10 DQ);have HH:=J (show RowK false V P (JF ps)/\Bl w V from⟨h9,b.o.2⟩);clear c b an h9;go_wp2_with fail
    go_ret;exact⟨_,rfl,HH.o⟩
theorem Rhn.dvn{b:List Rat}(h:Rhn p q (De K p q) a b)(i:b≠[]):∃D E:Int,Dvn D E E (De K p q) (De K p q) a b:=by
 obtain⟨D,d1,e,f⟩:=h.ca;obtain⟨E,c,d,g⟩:=h.cb;exact⟨D,E,d1,e,f,c,d,g,c,d,by rw[h.mb i,Rat.divInt_self' c]⟩
theorem ChOk.fit(b:ChOk K p q)(f:a.length<=max p.length q.length):De K p q+a.length*(De K p q+1)+1+(2*De K p q+1)<=1000000:=by
 have c:(a.length+2)*(De K p q+1)<=(max p.length q.length+2)*(De K p q+1):=Ak _ Y;have d:(a.length+2)*(De K p q+1)=a.length*(De K p q+1)+2*(De K p q+1):=Ay _ _ _;have e:=b.le;omega
theorem eT(K:Nat)(va vb:N)(p q:List Rat)(w:F)(ha:RowK false w va p)(S:RowK false w vb q)(c:ChOk K p q):
 Calls G 13 #[va,vb] w λe f=>∃u,e=.returned u/\RowK false f u (JZ p q)/\Bl w f:=by
 obtain⟨A,hA⟩:=ex (De K p q);have s:=c.bd;have Qo:=c.ln;have mono:∀(r:List Rat),Jd r=r->(∃D:Int,D≠0/\Sm 1000000 D/\EJ D 1000000 r)->r.length<=1000->∀(V:F) (x:N),RowK false V x r->Calls G 40 #[x] V λe f=>∃u,e=.returned u/\RowK false f u (JF r)/\Bl V f:=λr tr hr hl V x k=>by
  obtain⟨D,d1,M,P⟩:=hr;exact Sv x r V k tr (DZ.of λi=>Sq.of ((P i).smq d1 M) (Aa _)) (λj=>by
   rw[Fm,Rat.one_mul];exact Sq.of (((P _).smq d1 M).inv (JB tr j)) (Aa _)) Y
 have Qa:∀(r:List Rat),(∃D:Int,D≠0/\Sm K D/\EJ D K r)->∃D:Int,D≠0/\Sm 1000000 D/\EJ D 1000000 r:=λr h=>by
  obtain⟨D,d1,M,P⟩:=h;exact⟨D,d1,M.mono s.2.1,λi=>(P i).mono s.2.1⟩
 obtain⟨H1,H2,z,Qg⟩:=EB (λ(V:F) (hB:Bl w V)=>mono p c.tp (Qa p c.cp) Y V va (ha.below hB)) (λ(V:F) (hB:Bl w V)=>mono q c.tq (Qa q c.cq) Y V vb (S.below hB)) (Rhn.start c.tp c.tq c.lp c.lq s.2.2.1) λ(a b:List Rat) (h:Rhn p q (De K p q) a b) (S:b≠[])=>Rhn.next c.tp c.tq c.lp c.lq s.2.2.1 h S;have Qk:=J (λ(a b:List Rat) (h:Rhn p q (De K p q) a b) (j:b≠[]) (V:F) (x y:N) (k:RowK false V x a) (hy:RowK false V y b)=>show Calls G 41 #[x,y] V λe f=>∃u v,e=.returned (.tuple #[u,v])/\RowK false f u (YE a b)/\RowK false f v (J2 a b)/\Bl V f by
  obtain⟨D,E,l⟩:=Rhn.dvn h j;have hf:=c.fit h.la;exact Sd _ (De K p q) x y a b V k hy (l.divS a.length Y) l.start l.sq h.ta h.tb j (by have:=h.la;omega))
 have Qh:=J (λ(a b:List Rat) (h:Rhn p q (De K p q) a b) (j:b≠[]) (V:F) (x:N) (k:RowK false V x (J2 a b))=>mono (J2 a b) (YR _ _) (by
  obtain⟨D,E,l⟩:=Rhn.dvn h j;have hf:=c.fit h.la;obtain⟨m,hm⟩:=ex (a.length-(b.length-1));have ak:m*(De K p q+1)<=a.length*(De K p q+1):=Ak _ Y;have Q:=l.den m;have h2:=(l.rem hm).1;exact⟨_,Q.1,Q.2.mono Y,λi=>(h2 i).mono Y⟩) (by have Q:=(YF a b h.tb j).2.1;have h2:=h.lb;omega) V x k)
 have Ql:=J (λ(a:List Rat) (h:Rhn p q (De K p q) a [])=>show a=JZ p q by rw[<-h.gc,Oe,h.ma]);have Qi:=J (λ(a b:List Rat) (h:Rhn p q (De K p q) a b)=>show b.length<=1000 by have:=h.lb;omega);rw[hA]at z Qg Qk Qh Ql Qi;clear mono Qa c s Qo ha S hA;go_enter Tryz.func13,Tryz.ntmps13
 have Qf:Bl w w:=BB _ _;go_wp2_with(first
  |(go_at_call 40;refine(H1.o _ Qf).mono ?_;clear H1;rintro e w1 ⟨u1,rfl,o,ah⟩;have Qd:=Bt Qf ah;clear Qf)
  |(go_at_call 40;refine(H2.o _ Qd).mono ?_;clear H2;rintro e w2 ⟨u2,rfl,t,ad⟩;have Qm:=Bt Qd ad;have o:=o.below ad))
 obtain⟨U,X,W,rfl⟩:=o.form;obtain⟨ya,g,yc,rfl⟩:=t.form;go_loopw [5,6,7,8] (λav bv _ _ wr=>∃(a b:List Rat) (U:Option Addr) (X W:Nat) (ya:Option Addr) (g yc:Nat),av=C U X W/\bv=C ya g yc/\g<=1000/\Hid (g=b.length)/\Hid (RowK false wr (C U X W) a)/\Hid (RowK false wr (C ya g yc) b)/\Hid (Rhn p q A a b)/\Hid (Bl w wr)) λ_ bv _ _ _=>lenOf bv
 case atStart=>exact⟨_,_,_,_,_,_,_,_,rfl,rfl,by have:=Qi.o _ _ z.o;have:=t.formsF.1;omega,J t.formsF.1,J o,J t,z,J Qm⟩
 case round=>
  clear o t ah ad Qd Qm z;obtain⟨a,b,U,X,W,ya,g,yc,rfl,rfl,am,B,HA,HB,n,HQ⟩:=hrel;by_cases d:b=[]
  . have Qn:¬(0:Int)<(g:Int):=by have:=B.o;rw[d]at this;simp at this;omega
    have Qq:=J (show a=JZ p q from Ql.o a (by have:=n.o;rwa[d]at this));clear d;go_wp2_with fail
    go_ret;exact⟨_,rfl,by rw[<-Qq.o];exact HA.o,HQ.o⟩
  . have Qn:(0:Int)<(g:Int):=by have:=B.o;have:=Ar.2 d;omega
    obtain⟨H3,H4,HN,Qj⟩:=EB (Qk.o a b n.o d wr _ _ HA.o HB.o) (λ(V:F) (x:N) (k:RowK false V x (J2 a b))=>Qh.o a b n.o d V x k) (Qg.o a b n.o d) (show(JF (J2 a b)).length<b.length by rw[Yo (YR _ _)];exact(YF a b n.o.tb d).2.1);clear d;go_wp2_with(first
     |(go_at_call 41;refine H3.o.mono ?_;clear H3;rintro e w3 ⟨u3,v3,rfl,aj,ai,T⟩)
     |(go_at_call 40;refine(H4.o _ _ ai).mono ?_;clear H4;rintro e w4 ⟨u4,rfl,af,ae⟩;obtain⟨za,zl,zc,rfl⟩:=af.form))
    obtain⟨I,Qr,Qp⟩:=Dk af ((HB.o.below T).below ae) ((Bt HQ.o T).trans (ae.mono (Aq HQ.o.size T.size)));clear aj ai T af ae;go_roundw
    case rel=>exact⟨b,JF (J2 a b),_,_,_,_,_,_,rfl,rfl,by have:=I.o.formsF.1;have:=Qj.o;have:=B.o;omega,J I.o.formsF.1,Qr,I,HN,Qp⟩
    case measure=>
     show zl<g;have Q:=I.o.formsF.1;have h2:=Qj.o;have h3:=B.o;omega
end M3
section
def Dv(a b:List Rat):Prop:=∃c:List Rat,∀x,ev b x=ev a x*ev c x
def eU(a b:List Rat):Prop:=∃u v:List Rat,∀x,ev u x*ev a x+ev v x*ev b x=1
section
variable {a b c d p q:List Rat}
theorem Dv.refl(a:List Rat):Dv a a:=⟨[1],λx=>by simp[ev];grind⟩
theorem Dv.trans(h:Dv a b)(d:Dv b c):Dv a c:=by
 obtain⟨u,e⟩:=h;obtain⟨v,f⟩:=d;exact⟨JQ u v,λx=>by rw[f,e,Xf];grind⟩
theorem Dv.zero(a:List Rat):Dv a []:=⟨[],λx=>by simp[ev]⟩
theorem Dv.comb(h:Dv d a)(e:Dv d b)(u v:List Rat)(f:∀x,ev c x=ev u x*ev a x+ev v x*ev b x):Dv d c:=by
 obtain⟨s,hs⟩:=h;obtain⟨t,g⟩:=e;exact⟨ES (JQ u s) (JQ v t),λx=>by rw[f,hs,g,Ke,Xf,Xf];grind⟩
theorem Dv.of_sc{k:Rat}(c:k≠0)(h:Dv a b):Dv (Dn k a) b:=by
 obtain⟨u,d⟩:=h;have e:(1/k)*k=1:=Cp c;exact⟨Dn (1/k) u,λx=>by rw[d,Xd,Xd];grind⟩
theorem Dv.sc(h:Dv a b)(k:Rat):Dv a (Dn k b):=by
 obtain⟨u,c⟩:=h;exact⟨Dn k u,λx=>by rw[Xd,c,Xd];grind⟩
end
theorem Sw{p:List Rat}(x:Rat):ev (JF p) x=ev p x*(1/cf p (p.length-1)):=Xd _ _ _
theorem eV:∀(n:Nat) (p q:List Rat),Jd p=p->Jd q=q->q.length<=n->Dv (EX n p q) p/\Dv (EX n p q) q/\∃u v:List Rat,∀x,ev (EX n p q) x=ev u x*ev p x+ev v x*ev q x:=by
 intro n;induction n with
 |zero=>
  intro p q hp hq hl;have a:q=[]:=Mc Y;subst a;rw[EX];refine⟨?_,Dv.zero _,[1/cf p (p.length-1)],[],λx=>by rw[Sw];simp[ev];grind⟩;by_cases b:p=[]
  . subst b;exact Dv.refl _
  . exact Dv.of_sc (Hy (JB hp b)) (Dv.refl _)
 |succ n g=>
  intro p q hp hq hl;by_cases a:q=[]
  . subst a;simp only[EX,BG];refine⟨?_,Dv.zero _,[1/cf p (p.length-1)],[],λx=>by rw[Sw];simp[ev];grind⟩;by_cases b:p=[]
    . subst b;exact Dv.refl _
    . exact Dv.of_sc (Hy (JB hp b)) (Dv.refl _)
  . simp only[EX,BC a];obtain⟨d,j,k,i⟩:=YF p q hq a;obtain⟨c,e,u,v,f⟩:=g q (J2 p q) hq i Y;refine⟨c.comb e (YE p q) [1] (λx=>by rw[d x];simp[ev];grind),c,v,J3 u (JQ v (YE p q)),λx=>?_⟩;rw[f x,d x,LV,Xf];grind
section
variable {p q d:List Rat}
theorem eW(hp:Jd p=p)(hq:Jd q=q):Dv (JZ p q) p/\Dv (JZ p q) q/\∃u v:List Rat,∀x,ev (JZ p q) x=ev u x*ev p x+ev v x*ev q x:=eV _ p q hp hq (Aa _)
theorem eX:∀(n:Nat) (p q:List Rat),Jd p=p->Jd q=q->q.length<=n->JF (EX n p q)=EX n p q:=by
 intro n;induction n with
 |zero=>intro p q hp _ _;exact Me hp
 |succ n b=>
  intro p q hp hq hl;rw[EX];split
  . exact Me hp
  . rename_i a;have:=(YF p q hq a).2.1;exact b _ _ hq (YR _ _) Y
theorem LL(hp:Jd p=p)(hq:Jd q=q):JF (JZ p q)=JZ p q:=eX _ p q hp hq (Aa _)
end
variable{p:List Rat}
theorem Sx(hp:Jd p=p)(h:∀x,ev p x=0):p=[]:=IC hp rfl (λx=>by rw[h x];rfl)
theorem Dv.some{a b:List Rat}(d:Jd b=b)(h:Dv a b):∃c,Jd c=c/\b=JQ a c:=by
 obtain⟨c,e⟩:=h;exact⟨Jd c,Yi _,IC d (X9 _ _) λx=>by rw[Xf,Hg,e]⟩
theorem eY{q:List Rat}(hp:Jd p=p)(hq:Jd q=q)(h:p≠[]\/q≠[]):JZ p q≠[]:=λe=>by
 obtain⟨a,b,_⟩:=eW hp hq;rw[e]at a b;obtain⟨c,f⟩:=a;obtain⟨d,g⟩:=b;rcases h with h|h
 . exact h (Sx hp λx=>by rw[f];simp[ev])
 . exact h (Sx hq λx=>by rw[g];simp[ev])
end
section
variable {a b c d e f g k p q r u w y z R:List Rat}
theorem eZ(p:List Rat)(i:Nat):cf (Jj p) i=cf p (i+1)*(((i+1:Nat):Int):Rat):=by
 unfold Jj;rw[JU,Kd];rfl
structure Yun(R w y:List Rat):Prop where
 tR:Jd R=R
 R0:R≠[]
 tw:Jd w=w
 w0:w≠[]
 mw:JF w=w
 ty:Jd y=y
 eq:∀x,ev y x*ev R x=ev w x*ev (Jj R) x
 cop:eU w y
end
section
open Go.RowKit Go.Shelf
def Cd(M:Nat)(p:List Rat):Prop:=∃D:Int,D≠0/\Sm M D/\EJ D M p
section
variable {M N:Nat} {p q:List Rat}
theorem Cd.mono(h:Cd M p)(a:M<=N):Cd N p:=by
 obtain⟨D,d1,b,c⟩:=h;exact⟨D,d1,b.mono a,λi=>(c i).mono a⟩
theorem Cd.smq(h:Cd M p)(i:Nat):Dd M (cf p i):=by
 obtain⟨D,d1,a,b⟩:=h;exact(b i).smq d1 a
theorem Cd.ln(h:Cd M p):Ln M p:=by
 obtain⟨D,d1,b,a⟩:=h;exact a.ln d1
theorem Cd.sqs(h:Cd M p)(a:M<=1000000):DZ p:=DZ.of λi=>Sq.of (h.smq i) a
theorem Cd.pos(h:Cd M p):1<=M:=by
 obtain⟨D,d1,a,_⟩:=h;by_cases b:1<=M
 . exact b
 . exfalso
   obtain rfl:M=0:=Y
   unfold Sm at a;have:D.natAbs≠0:=Int.natAbs_ne_zero.2 d1;simp at a;omega
theorem Cd.mon(h:Cd M p)(tp:Jd p=p):Cd M (JF p):=LH tp h.ln h.pos
theorem Cd.monS(h:Cd M p)(tp:Jd p=p)(b:M<=1000000)(i:Nat):Sq (cf p i/cf p (p.length-1)):=by
 have a:=Ln.sqs tp h.ln h.pos i;unfold JF at a;rw[Y6,Fm,Rat.one_mul,<-Fm]at a;exact Sq.of a b
theorem Cd.dvn(h:Cd M p)(f:Cd M q)(g:cf q (q.length-1)=1):∃D E:Int,Dvn D E E M M p q:=by
 obtain⟨D,d1,c,d⟩:=h;obtain⟨E,a,b,e⟩:=f;exact⟨D,E,d1,c,d,a,b,e,a,b,by rw[g,Rat.divInt_self' a]⟩
theorem Cd.quo(h:Cd M p)(e:Cd M q)(b:cf q (q.length-1)=1):Cd ((p.length+1)*(M+1)) (YE p q)/\Cd ((p.length+1)*(M+1)) (J2 p q):=by
 obtain⟨D,E,d⟩:=h.dvn e b;obtain⟨m,b⟩:=ex (p.length-(q.length-1));have a:=d.den m;have c:=d.rem b;have f:m*(M+1)<=p.length*(M+1):=Ak _ Y;have g:(p.length+1)*(M+1)=p.length*(M+1)+(M+1):=by rw[Ay,Cw]
 exact⟨⟨_,a.1,a.2.mono Y,λi=>(c.2 i).mono Y⟩,⟨_,a.1,a.2.mono Y,λi=>(c.1 i).mono Y⟩⟩
end
variable{q:List Rat}
theorem Ok(tq:Jd q=q)(q0:q≠[])(a:JF q=q):cf q (q.length-1)=1:=by
 have:=SU tq q0;rwa[a]at this
def Dq(p q:List Rat):List Rat:=if q=[]then []else YE p q
theorem Ol(p q:List Rat):Jd (Dq p q)=Dq p q:=by
 unfold Dq;split
 . rfl
 . exact SN _ _
theorem Cd.ov{M:Nat}{p:List Rat}(h:Cd M p)(b:Cd M q)(tq:Jd q=q)(c:JF q=q):Cd ((p.length+1)*(M+1)) (Dq p q):=by
 unfold Dq;split
 . refine(show Cd 1 []from Si Y).mono ?_;have:1*1<=(p.length+1)*(M+1):=CC Y Y;omega
 . rename_i a;exact(h.quo b (Ok tq a c)).1
def XI(p:List Rat):List Rat:=JF (Dq p (JZ p (Jj p)))
namespace M3
variable{p q:List Rat}{K:Nat}
theorem Chn.ends(d:ChOk K p q):∀(n:Nat) (a b:List Rat),b.length<=n->Chn p q (De K p q) a b->∃r,Chn p q (De K p q) r []:=by
 intro n;induction n with
 |zero=>
  intro a b hl h;have c:b=[]:=Mc Y;subst c;exact⟨a,h⟩
 |succ n e=>
  intro a b hl h;by_cases c:b=[]
  . subst c;exact⟨a,h⟩
  . have f:=Ml (a:=a) h.tb c;exact e b (Ep a b) Y (Chn.next d.tp d.tq d.lp d.lq d.bd.2.2.1 h c)
theorem ChOk.gcd(a:ChOk K p q):Cd (De K p q) (JZ p q):=by
 obtain⟨r,b⟩:=Chn.ends a _ _ _ (Aa _) (Chn.start a.tp a.tq a.lp a.lq a.bd.2.2.1);rw[<-b.gc,Oe];exact LH b.ta b.wa.ln a.bd.2.2.2
theorem Sy(M:Nat)(v:N)(p:List Rat)(w:F)(h:Jg w v p)(tp:Jd p=p)(b:Cd M p)(a:M<=1000000):
 Calls G 26 #[v] w λe c=>∃u,e=.returned u/\Jg c u (JF p)/\Bl w c:=
 Sr v p w h (b.sqs a) tp λi=>b.monS tp a i
theorem ec(M:Nat)(v:N)(p:List Rat)(w:F)(h:RowK false w v p)(tp:Jd p=p)(b:Cd M p)(a:M<=1000000)(hl:p.length<=1000000):
 Calls G 40 #[v] w λe c=>∃u,e=.returned u/\RowK false c u (JF p)/\Bl w c:=
 Sv v p w h tp (b.sqs a) (λd=>by
  rw[Fm,Rat.one_mul];exact Sq.of ((b.smq _).inv (JB tp d)) a) Y
theorem ee(M:Nat)(b c:N)(p q:List Rat)(w:F)(f:RowK false w b p)(g:RowK false w c q)(hp:Cd M p)(hq:Cd M q)(tp:Jd p=p)(tq:Jd q=q)(q0:q≠[])(i:JF q=q)(k:(p.length+3)*(M+1)<=1000000)(hl:p.length<=1000):
 Calls G 41 #[b,c] w λe d=>∃u v,e=.returned (.tuple #[u,v])/\RowK false d u (YE p q)/\RowK false d v (J2 p q)/\Bl w d:=by
 obtain⟨D,E,a⟩:=hp.dvn hq (Ok tq q0 i);have j:(p.length+3)*(M+1)=p.length*(M+1)+3*(M+1):=Ay _ _ _;exact Sd _ M b c p q w f g (a.divS p.length Y) a.start a.sq tp tq q0 hl
theorem ej(M:Nat)(a b:N)(p q:List Rat)(w:F)(d:Jg w a p)(f:Jg w b q)(hp:Cd M p)(hq:Cd M q)(tp:Jd p=p)(tq:Jd q=q)(j:JF q=q)(n:2*((p.length+3)*(M+1))<=1000000):
 Calls G 22 #[a,b] w λe c=>∃u v,e=.returned (.tuple #[u,v,.bool (decide (q≠[]))])/\Jg c u (if q=[]then []else YE p q)/\Jg c v (if q=[]then []else J2 p q)/\Bl w c:=by
 have k:(p.length+3)*(M+1)=p.length*(M+1)+3*(M+1):=Ay _ _ _;refine SF M a b p q w d f (hp.sqs Y) hq.smq tp tq λq0=>?_;obtain⟨D,E,g⟩:=hp.dvn hq (Ok tq q0 j);obtain⟨m,i⟩:=ex (p.length-(q.length-1));have l:m*(M+1)<=p.length*(M+1):=Ak _ Y;rw[i];exact g.sizes Y
attribute [local go_sem] Oper.semAt_some
theorem LM(M:Nat)(U V:N)(p q:List Rat)(w:F)(t:Jg w U p)(y:Jg w V q)(hp:Cd M p)(hq:Cd M q)(tp:Jd p=p)(tq:Jd q=q)(T:JF q=q)(K:2*((p.length+3)*(M+1))<=1000000):
 Calls G 46 #[U,V] w λe W=>∃u,e=.returned u/\Jg W u (Dq p q)/\Bl w W:=by
 obtain⟨j,la,k,rfl⟩:=t.form;obtain⟨l,lb,m,rfl⟩:=y.form;have r:=(((Mem.nil w).push (.cell 25 (C j la k)) (cs:=#[C j la k]) ⟨rfl,rfl⟩).push (.cell 25 (C l lb m)) (cs:=#[C l lb m]) ⟨rfl,rfl⟩).push (.cell 25 (C none 0 0)) (cs:=#[C none 0 0]) ⟨rfl,rfl⟩;simp only[A1]at r;obtain⟨W0,s⟩:=ex (((w.alloc (E #[C j la k] 25)).alloc (E #[C l lb m] 25)).alloc (E #[C none 0 0] 25));have B:=J s;have a:Hid (Mem w W0 [some (w.heap.size,.cell 25 (C j la k)),some (w.heap.size+1,.cell 25 (C l lb m)),some (w.heap.size+1+1,.cell 25 (C none 0 0))]):=J (by rw[<-s];exact r);have o:=J (ej M _ _ p q W0 (t.below a.o.2.2) (y.below a.o.2.2) hp hq tp tq T K);obtain⟨bq,P⟩:=ex (decide (q≠[]));rw[P,show(if q=[]then []else YE p q)=Dq p q from rfl]at o;have c0:=(a.o.cell (i:=0) rfl).1.cell;have c1:=(a.o.cell (i:=1) rfl).1.cell;have n1:=(a.o.cell (i:=2) rfl).1;have A:=J a.o.2.2;clear r s t y hp hq tp tq T K P a;go_enter Tryz.func46,Tryz.ntmps46
 go_upto_region 1 with fail
 rw[B.o];clear B;go_upto_region 2 with(go_at_call 22;refine o.o.mono ?_;clear o;rintro e n ⟨u4,v4,rfl,z,Q,f⟩;obtain⟨b,c,c4,rfl⟩:=z.form;obtain⟨D,S,I,rfl⟩:=Q.form)
 have d:Bl n ((n.alloc (E #[C b c c4] 25)).alloc (E #[C D S I] 25)):=(Ba n _).alloc (by rw[A1];omega) _;have nb:=(BM n 25 (C b c c4)).alloc (E #[C D S I] 25);have e5:=nb.cell;have g:=boxed_below (boxed_below n1 f) d;have x0:=g.cell;have x1:=g.frozen;have Qe:=J (LI g (x:=C b c c4) (z.below d));have X:=J (((Bt A.o f).trans (d.mono (Aq A.o.size f.size))).setCell (p:=⟨w.heap.size+1+1,0,none⟩) (by show w.heap.size<=w.heap.size+1+1;omega) (C b c c4));clear c0 c1 z Q f nb g d;go_wp2_with fail
 exact BA (v:=R #[C b c c4]) (by simp[results,Tryz.results46,go_sem,x0]) rfl ⟨_,rfl,Qe.o,X.o⟩
structure FrOk(K:Nat)(p:List Rat):Prop where
 ch:ChOk K p (Jj p)
 le:(p.length+3)*(De K p (Jj p)+1)*2<=1000000
theorem FrOk.cd(h:FrOk K p):Cd (De K p (Jj p)) p:=(show Cd K p from h.ch.cp).mono (by have:=Hd K p (Jj p);omega)
theorem FrOk.sl(h:FrOk K p)(i:Nat):Sq (E0 p i):=by
 have b:=(show Cd K (Jj p)from h.ch.cq).sqs h.ch.bd.2.1;have a:=b.at i;unfold Jj at a;rwa[JU,Kd]at a
theorem Om(K:Nat)(v:N)(p:List Rat)(w:F)(h:Jg w v p)(m:FrOk K p):
 Calls G 16 #[v] w λe w'=>∃u,e=.returned u/\Jg w' u (XI p)/\Bl w w':=by
 have Qi:Tryz.prog.follows .mixedOrders=true:=by kernel_rfl
 obtain⟨j,la,k,rfl⟩:=h.form;have M0:=((Mem.nil w).push (.cell 25 (C j la k)) (cs:=#[C j la k]) ⟨rfl,rfl⟩).push (.poly []) (cs:=#[C none 0 0]) (He _);simp only[A1]at M0;obtain⟨W0,ae⟩:=ex ((w.alloc (E #[C j la k] 25)).alloc (E #[C none 0 0] 25));have Qc:=J ae;have h9:=m.le;have h8:=m.ch.bd;have h7:(p.length+3)*(De K p (Jj p)+1)=(p.length+1)*(De K p (Jj p)+1)+2*(De K p (Jj p)+1):=by rw[<-Ay]
 have Qa:=m.ch.gcd;have Qb:=LL m.ch.tp m.ch.tq;obtain⟨Qe,Qj,Qf,Qd⟩:=EB (λ(V:F) (Q:Bl w V)=>OY (R #[C j la k]) p V (h.below Q) (m.cd.sqs h8.1) m.sl) (λ(V:F) (Q:Bl w V) (y:N) (T:Jg V y (Jj p))=>Oj K (R #[C j la k]) y p (Jj p) V (h.below Q) T m.ch) (λ(V:F) (Q:Bl w V) (y:N) (T:Jg V y (JZ p (Jj p)))=>LM (De K p (Jj p)) (R #[C j la k]) y p (JZ p (Jj p)) V (h.below Q) T m.cd Qa m.ch.tp (Iw _ _) Qb Y) λ(V:F) (y:N) (T:Jg V y (Dq p (JZ p (Jj p))))=>Sy ((p.length+1)*(De K p (Jj p)+1)) y (Dq p (JZ p (Jj p))) V T (Ol _ _) (m.cd.ov Qa (Iw _ _) Qb) Y;rw[show JF (Dq p (JZ p (Jj p)))=XI p from rfl]at Qd;have M1:Hid (Mem w W0 [some (w.heap.size,.cell 25 (C j la k)),some (w.heap.size+1,.poly ([]))]):=J (by rw[<-ae];exact M0);clear M0 ae h m h9 h8 h7 Qa Qb;go_enter Tryz.func16,Tryz.ntmps16
 go_upto_region 1 with fail
 rw[Qc.o];clear Qc;refine Jl Qi [[],[],[],[2],[1,3,3],[0,4,4],[5,5],[6,6,0,1,2,3,4,5,6]] (by kernel_rfl) DQ
  (λD ad V=>∃(ta tb W X te tf tg:N) (U:Option (Nat × Dat)),ad={ tmps:=#[R #[C j la k],L (some ⟨w.heap.size,0,none⟩),L (some ⟨w.heap.size+1,0,none⟩),ta,tb,W,X,te,tf,tg],defers:=[] }/\Hid ((D 0=true->ta=R #[C j la k])/\(D 1=true->tb=R #[C j la k])/\(D 2=true->W=R #[C j la k])/\(D 3=true->Has V X (.poly (Jj p)))/\(D 4=true->Has V te (.poly (JZ p (Jj p))))/\(D 5=true->Has V tf (.poly (Dq p (JZ p (Jj p)))))/\(D 6=true->Has V tg (.poly (XI p)))/\((D 7=false->U=some (w.heap.size+1,.poly ([])))/\(D 7=true->U=some (w.heap.size+1,.poly (XI p)))))/\Hid (Mem w V [some (w.heap.size,.cell 25 (C j la k)),U]))
  ⟨_,_,_,_,_,_,_,_,rfl,J ⟨O,O,O,O,O,O,O,⟨λ_=>rfl,O⟩⟩,J (M1.o).drew⟩ ?step1 ?fin1
 case step1=>
  rintro D ad V i ds ah hi g af ⟨ta,tb,W,X,te,tf,tg,U,rfl,b,f⟩;have ai:i<8:=(Ac.1 hi).1;obtain rfl|rfl|rfl|rfl|rfl|rfl|rfl|rfl:=LP i Y
  all_goals
   simp only[Af,Ae,Ag]at hi;subst hi
  . have e0:=(f.o.cell (i:=0) rfl).1.cell;clear g;refine Za ?_;exact⟨_,_,_,_,_,_,_,_,rfl,(Dg b),J (f.o)⟩
  . have e0:=(f.o.cell (i:=0) rfl).1.cell;clear g;refine Za ?_;exact⟨_,_,_,_,_,_,_,_,rfl,(Do b),J (f.o)⟩
  . have e0:=(f.o.cell (i:=0) rfl).1.cell;clear g;refine Za ?_;exact⟨_,_,_,_,_,_,_,_,rfl,(Df b),J (f.o)⟩
  . obtain rfl:=(b.o.2.2.1 (g 2 O));have I:=J (Qe.o V f.o.2.2);clear g;refine Jb rfl rfl λK hK=>?_;go_simp;go_wp2_with(go_at_call 24;refine I.o.mono ?_;rintro e w5 ⟨v5,rfl,M,d⟩)
    obtain⟨o,q,_,_,x,z,A,B⟩:=b.o;exact⟨_,_,_,_,_,_,_,_,rfl,J ⟨o,q,λ_=>rfl,λ_=>M,λh=>(x h).below d,λh=>(z h).below d,λh=>(A h).below d,B⟩,J (f.o.below d)⟩
  . obtain rfl:=(b.o.2.1 (g 1 O));have P:=(b.o.2.2.2.1 (g 3 O));have I:=J (Qj.o V f.o.2.2 _ P);clear g P;refine Jb rfl rfl λK hK=>?_;go_simp;go_wp2_with(go_at_call 8;refine I.o.mono ?_;rintro e w5 ⟨v5,rfl,M,d⟩)
    obtain⟨o,_,s,t,_,z,A,B⟩:=b.o;exact⟨_,_,_,_,_,_,_,_,rfl,J ⟨o,λ_=>rfl,s,λh=>(t h).below d,λ_=>M,λh=>(z h).below d,λh=>(A h).below d,B⟩,J (f.o.below d)⟩
  . obtain rfl:=(b.o.1 (g 0 O));have P:=(b.o.2.2.2.2.1 (g 4 O));have I:=J (Qf.o V f.o.2.2 _ P);clear g P;refine Jb rfl rfl λK hK=>?_;go_simp;go_wp2_with(go_at_call 46;refine I.o.mono ?_;rintro e w5 ⟨v5,rfl,M,d⟩)
    obtain⟨_,q,s,t,x,_,A,B⟩:=b.o;exact⟨_,_,_,_,_,_,_,_,rfl,J ⟨λ_=>rfl,q,s,λh=>(t h).below d,λh=>(x h).below d,λ_=>M,λh=>(A h).below d,B⟩,J (f.o.below d)⟩
  . have h0:=((Dp b) (g 5 O));have I:=J (Qd.o V _ h0);clear g h0;refine Jb rfl rfl λK hK=>?_;go_simp;go_wp2_with(go_at_call 26;refine I.o.mono ?_;rintro e w5 ⟨v5,rfl,M,d⟩)
    obtain⟨o,q,s,t,x,z,_,B⟩:=b.o;exact⟨_,_,_,_,_,_,_,_,rfl,J ⟨o,q,s,λh=>(t h).below d,λh=>(x h).below d,λh=>(z h).below d,λ_=>M,B⟩,J (f.o.below d)⟩
  . obtain rfl:=Du b af;have hv:=((Ds b) (g 6 O));obtain⟨a1,l1,c1,rfl⟩:=Jg.form (show Jg V _ _ from hv);obtain⟨a,l,c,n,r⟩:=f.o.poly2 (i:=1) rfl;have e0:=n.cell;have f0:=n.frozen;clear g;refine Za ?_;obtain⟨o,q,s,t,x,z,A,_⟩:=b.o;exact⟨_,_,_,_,_,_,_,_,rfl,J ⟨o,q,s,λh=>(t h).set1 n rfl _,λh=>(x h).set1 n rfl _,λh=>(z h).set1 n rfl _,λh=>(A h).set1 n rfl _,⟨λh=>by simp at h,λ_=>rfl⟩⟩,J (f.o.putPoly (i:=1) rfl hv)⟩
 rintro D ad V2 S ⟨ta,tb,W,X,te,tf,tg,U,rfl,b,f⟩;obtain rfl:=b.o.2.2.2.2.2.2.2.2 (S 7 DQ);obtain rfl:=b.o.1 (S 0 DQ);obtain rfl:=b.o.2.1 (S 1 DQ);obtain rfl:=b.o.2.2.1 (S 2 DQ);clear b S M1;have M2:Hid (Mem w V2 [some (w.heap.size,.cell 25 (C j la k)),some (w.heap.size+1,.poly (XI p))]):=f;clear f;obtain⟨a3,l3,c3,n3,r3⟩:=M2.o.poly2 (i:=1) rfl;have Qh:=n3.cell;have Qg:=J M2.o.2.2;go_wp2_with fail
 exact BA (v:=R #[C a3 l3 c3]) (by simp[results,Tryz.results16,go_sem,Qh]) rfl ⟨_,rfl,r3,Qg.o⟩
theorem Sz(K:Nat)(v:N)(p:List Rat)(w:F)(h:RowK false w v p)(b:FrOk K p):
 Calls G 17 #[v] w λe s=>∃u,e=.returned u/\RowK false s u (XI p)/\Bl w s:=by
 obtain⟨a,la,ca,rfl⟩:=h.form;obtain⟨r,M,P,ae,_⟩:=h.formsF;by_cases c:p=[]
 . have ad:(la:Int)=0:=by rw[r,c];rfl
   have t:=J (show RowK false w (C a la ca) (XI p)by rw[c]at h ⊢;exact h);clear h c b;go_enter Tryz.func17,Tryz.ntmps17
   go_wp2_with fail
   go_ret;exact⟨_,rfl,t.o,BB _ _⟩
 . have X:¬(la:Int)=0:=by have:=Ar.2 c;omega
   have A:=b.le;have q:=b.ch.bd;have z:(p.length+3)*(De K p (Jj p)+1)=(p.length+1)*(De K p (Jj p)+1)+2*(De K p (Jj p)+1):=by rw[<-Ay]
   have f:=b.ch.gcd;have j:=LL b.ch.tp b.ch.tq;have i:=eY b.ch.tp b.ch.tq (Or.inl c);have x:=b.ch.ln;have k:Dq p (JZ p (Jj p))=YE p (JZ p (Jj p)):=BC i;obtain⟨m,o,n⟩:=Dk (bK _ p w h (b.cd.sqs q.1) Y) (λ(V:F) (l:Bl w V) (y:N) (d:RowK false V y (Jj p))=>eT K _ y p (Jj p) V (h.below l) d b.ch) λ(V:F) (l:Bl w V) (y:N) (d:RowK false V y (JZ p (Jj p)))=>ee (De K p (Jj p)) _ y p (JZ p (Jj p)) V (h.below l) d b.cd f b.ch.tp (Iw _ _) i j Y Y;have g:=J (λ(V:F) (y:N) (d:RowK false V y (YE p (JZ p (Jj p))))=>ec ((p.length+1)*(De K p (Jj p)+1)) y (YE p (JZ p (Jj p))) V d (SN _ _) (by rw[<-k];exact b.cd.ov f (Iw _ _) j) Y (by
    have W:(YE p (JZ p (Jj p))).length<=p.length:=by
     unfold YE;refine Aq (Jw _) ?_;rw[(YD _ _ _ _ _).1];omega
    omega))
   rw[show JF (YE p (JZ p (Jj p)))=XI p by unfold XI;rw[k]]at g;clear h c b A q z f j i x k r M P;go_enter Tryz.func17,Tryz.ntmps17
   go_wp2_with(first
    |(go_at_call 47;refine m.o.mono ?_;clear m;rintro e w1 ⟨u1,rfl,Q,hq⟩)
    |(go_at_call 13;refine(o.o _ hq _ Q).mono ?_;clear o;rintro e w2 ⟨u2,rfl,S,B⟩;have hq:=Bt hq B)
    |(go_at_call 41;refine(n.o _ hq _ S).mono ?_;clear n;rintro e w3 ⟨u3,v3,rfl,T,af,D⟩;have hq:=Bt hq D)
    |(go_at_call 40;refine(g.o _ _ T).mono ?_;clear g;rintro e w4 ⟨u4,rfl,U,I⟩;have hq:=Bt hq I))
   go_ret;exact⟨_,rfl,U,hq⟩
end M3
end
open Go.RowKit Go.Shelf
variable{r:Bool}{p:List Rat}{cs:List N}{B base c l t:Nat}{a:Option Addr}{v:N}{W W':F}
theorem Tryz.infoPart:(Tryz.prog.info? 44).map (λi=>(i.zero,i.size,i.bytes))=some (some (R #[C none 0 0,H .i64 0]),2,32):=by kernel_rfl
theorem Tryz.infoRPart:(Tryz.prog.info? 46).map (λi=>(i.zero,i.size,i.bytes))=some (some (R #[C none 0 0,H .i64 0]),2,32):=by kernel_rfl
def ER(r:Bool):TypeId:=match r with|true=>44|false=>46
def Gt(r:Bool):TypeId:=match r with|true=>39|false=>41
def zP:Array N:=#[C none 0 0,H .i64 0]
theorem eo(r:Bool):Tryz.prog.underlying (Gt r)=some (.slice (ER r)):=by
 cases r with
 |true=>exact Tryz.underlying39
 |false=>exact Tryz.underlying41
theorem er(r:Bool):∃i,Tryz.prog.info? (ER r)=some i/\i.zero=some (R zP)/\i.size=2/\i.bytes=32:=by
 cases r with
 |true=>
  obtain⟨i,a,b,c,d⟩:=Bo Tryz.infoPart;exact⟨i,a,b,c,d⟩
 |false=>
  obtain⟨i,a,b,c,d⟩:=Bo Tryz.infoRPart;exact⟨i,a,b,c,d⟩
def Hf(r:Bool)(W W':F):Prop:=∀B,B<W.heap.size->(∀cs m,W.heap[B]?≠some (E cs (ER r) m))->W'.heap[B]?=W.heap[B]?
theorem Hf.at(h:Hf r W W'){cs:Array N}{t:TypeId}{m:Nat × Nat}(a:W.heap[B]?=some (E cs t m))(b:t≠ER r):W'.heap[B]?=W.heap[B]?:=
 h B (Ab.1 a).1 λc d e=>by
  rw[a]at e;simp only[Ag,Bu]at e;exact b e.2.1
theorem ez(k:IntKind)(r:Bool):NL k≠ER r:=by cases r<;>cases k<;>decide
theorem fA(k:Bool)(r:Bool):EH k≠ER r:=by cases r<;>cases k<;>decide
theorem Hf.row(h:Hf r W W'){k:IntKind}{ds:List Nat}(t:Row k W v ds):Row k W' v ds:=by
 obtain⟨a,c,e,l,n,o,d⟩:=t;refine⟨a,c,e,l,n,o,?_⟩;rcases d with d|⟨b,off,i,g,q⟩
 . exact Or.inl d
 . obtain⟨cs,m,p⟩:=id g;have f:=h.at p (ez k r);refine Or.inr ⟨b,off,i,g.of f,λj s=>?_⟩;rw[<-q j s];simp only[World.cell?,f]
theorem Hf.rowK(h:Hf r W W'){k:Bool}{qs:List Rat}(A:RowK k W v qs):RowK k W' v qs:=by
 obtain⟨a,cap,e,o,p,q,c⟩:=A;refine⟨a,cap,e,o,p,q,?_⟩;rcases c with c|⟨b,n,cs,d,t⟩
 . exact Or.inl c
 . refine Or.inr ⟨b,n,cs,(h.at d (fA k r)).trans d,λj w=>?_⟩;obtain⟨x,y,z,u,f,i,l,m,s⟩:=t j w;exact⟨x,y,z,u,f,i,l,m,s.keep λ_ _ _ g=>h.row g⟩
def Gf(r:Bool)(W:F)(cs:List N)(L:List (List Rat × Nat)):Prop:=
 cs.length=L.length*2/\∀j p t,L[j]?=some (p,t)->∃x,cs[j*2]?=some x/\cs[j*2+1]?=some (.int .i64 (t:Int))/\RowK r W x p
theorem Gf.keep{L:List (List Rat × Nat)}(h:Gf r W cs L)(d:∀v qs,RowK r W v qs->RowK r W' v qs):Gf r W' cs L:=by
 refine⟨h.1,λj p t e=>?_⟩;obtain⟨x,a,b,c⟩:=h.2 j p t e;exact⟨x,a,b,d _ _ c⟩
theorem Gf.below{r:Bool}{W W':F}{cs:List N}{L:List (List Rat × Nat)}(h:Gf r W cs L)(a:Bl W W'):Gf r W' cs L:=h.keep λ_ _ g=>g.below a
theorem Gf.snoc{L:List (List Rat × Nat)}(h:Gf r W cs L){x:N}(k:RowK r W x p):Gf r W (cs++[x,H .i64 (t:Int)]) (L++[(p,t)]):=by
 refine⟨by simp[h.1];omega,λj l m e=>?_⟩;by_cases i:j<L.length
 . rw[AJ i]at e;obtain⟨y,b,c,f⟩:=h.2 j l m e;exact⟨y,by rw[AJ (by have:=h.1;omega)];exact b,by rw[AJ (by have:=h.1;omega)];exact c,f⟩
 . rw[AB Y]at e;obtain⟨d,g⟩:=ex (j-L.length);rw[g]at e;cases d with
   |succ d=>simp at e
   |zero=>
    simp at e;obtain⟨rfl,rfl⟩:=e;have a:j=L.length:=Y
    subst a;refine⟨x,?_,?_,k⟩
    . rw[AB (by have:=h.1;omega),h.1,A3];rfl
    . rw[AB (by have:=h.1;omega),h.1,show L.length*2+1-L.length*2=1 by omega];rfl
def Eg(r:Bool)(base:Nat)(W:F)(v:N)(L:List (List Rat × Nat)):Prop:=
 (v=C none 0 0/\L=[])\/∃g cap a,v=C (some ⟨g,0,none⟩) L.length cap/\base<=g/\W.heap[g]?=some (E a (ER r) (0,0))/\L.length<=cap/\cap<=maxLen/\a.size=cap*2/\Gf r W (a.toList.take (L.length*2)) L
theorem Eg.nil(r:Bool)(base:Nat)(W:F):Eg r base W (C none 0 0) []:=Or.inl ⟨rfl,rfl⟩
theorem Eg.below{r:Bool}{base:Nat}{W W':F}{v:N}{L:List (List Rat × Nat)}(h:Eg r base W v L)(b:Bl W W'):Eg r base W' v L:=by
 rcases h with h|⟨g,cap,c,d,e,a,f,i,j,k⟩
 . exact Or.inl h
 . exact Or.inr ⟨g,cap,c,d,e,(b.block g (Ab.1 a).1).trans a,f,i,j,k.below b⟩
theorem Eg.form{L:List (List Rat × Nat)}(h:Eg r base W v L):∃a c,v=C a L.length c/\L.length<=c/\c<=maxLen:=by
 rcases h with⟨rfl,rfl⟩|⟨g,cap,e,rfl,_,_,b,d,_⟩
 . exact⟨none,0,rfl,O,by unfold maxLen;omega⟩
 . exact⟨_,cap,rfl,b,d⟩
theorem Eg.set{L:List (List Rat × Nat)}(h:Eg r base W v L)(b:Boxed W B 25 (C a l c)){u:N}(s:∀v qs,RowK r W v qs->RowK r (W.setCell ⟨B,0,none⟩ u) v qs):Eg r base (W.setCell ⟨B,0,none⟩ u) v L:=by
 rcases h with h|⟨g,cap,i,j,k,d,m,n,o,p⟩
 . exact Or.inl h
 . have f:g≠B:=λe=>by
    subst e;have q:W.heap[g]?=some (E #[C a l c] 25 (0,0)):=b;rw[q]at d;simp only[Ag,Bu]at d;have:=d.2.1;revert this;cases r<;>decide
   exact Or.inr ⟨g,cap,i,j,k,(BD W ⟨B,0,none⟩ u g f).trans d,m,n,o,p.keep s⟩
theorem fB(r:Bool)(base:Nat)(W:F)(v:N)(L:List (List Rat × Nat))(h:Eg r base W v L)(hx:RowK r W (C a l c) p)(hl:L.length+1<=1099511627776)(T:base<=W.heap.size):
 ∃v' z,(Builtin.append_ #[Gt r,Gt r] (Gt r) #[v,C (some ⟨W.heap.size,0,none⟩) 1 1]).run G (W.alloc (E #[C a l c,H .i64 (t:Int)] (ER r)))=.ok v' z/\Eg r base z v' (L++[(p,t)])/\Hf r W z/\(∀n w0,n<=base->Below n w0 W->Below n w0 z)/\W.heap.size<=z.heap.size:=by
 obtain⟨i,V,hz,y,ae⟩:=er r;have X:=eo r;have k:Bl W (W.alloc (E #[C a l c,H .i64 (t:Int)] (ER r))):=Ba W _;obtain⟨b,ad⟩:=ex (W.alloc (E #[C a l c,H .i64 (t:Int)] (ER r)));have Qf:b.heap[W.heap.size]?=some (E #[C a l c,H .i64 (t:Int)] (ER r) (0,0)):=by rw[<-ad];exact BE W _
 rw[ad]at k ⊢;have Ql:=hx.below k;have I:∀j c',[Value.slice a l c,H .i64 (t:Int)][j]?=some c'->b.cell? ((⟨W.heap.size,0,none⟩:Addr).add j)=some c':=λj c' f=>by
  rw[Y5,A8];exact cell_of Qf (by simpa using f)
 have Qh:∀c'∈[Value.slice a l c,H .i64 (t:Int)],c'.oneCell'=true:=λc' f=>by
  simp at f;rcases f with rfl|rfl<;>rfl
 have Qk:(Value.agg zP).cells=zP:=rfl;have Qp:zP.size=2:=rfl;have grown:∀(cs:List N) (w:Nat) (m:Nat),m=L.length+1->Gf r b (cs++[C a l c,H .i64 (t:Int)]) (L++[(p,t)])->cs.length=L.length*2->
  Eg r base (b.drew.alloc (E (cs.toArray++[Value.slice a l c,H .i64 (t:Int)].toArray++Builtin.zeroCells zP (grownCap b m w (ER r)-m)) (ER r))) (C (some ⟨b.heap.size,0,none⟩) m (grownCap b m w (ER r))) (L++[(p,t)]):=by
  intro cs w m hm f x;subst hm;have Qm:=grownCap_ge b (L.length+1) w (ER r);have Qq:=grownCap_le_maxLen b (L.length+1) w (ER r) (by unfold maxLen;omega);have Qr:Bl b (b.drew.alloc (E (cs.toArray++[Value.slice a l c,H .i64 (t:Int)].toArray++Builtin.zeroCells zP (grownCap b (L.length+1) w (ER r)-(L.length+1))) (ER r))):=((BB _ b).drew).alloc (Aa _) _;refine Or.inr ⟨b.heap.size,_,_,by rw[Ai];rfl,Aq T k.size,BE b.drew _,by rw[Ai];exact Qm,Qq,?_,?_⟩
  . simp only[Array.size_append,An,size_zeroCells,Qp,x,Am,AD];omega
  . have e:(cs.toArray++[Value.slice a l c,H .i64 (t:Int)].toArray++Builtin.zeroCells zP (grownCap b (L.length+1) w (ER r)-(L.length+1))).toList.take ((L++[(p,t)]).length*2)=cs++[C a l c,H .i64 (t:Int)]:=by
     simp only[Array.toList_append];have K:(L++[(p,t)]).length*2=(cs++[Value.slice a l c,H .i64 (t:Int)]).length:=by simp;omega
     rw[K];exact List.take_left
    rw[e];exact f.below Qr
 have fin:∀o,Hf r W (b.drew.alloc o)/\(∀n w0,n<=base->Below n w0 W->Below n w0 (b.drew.alloc o))/\W.heap.size<=(b.drew.alloc o).heap.size:=λo=>by
  have M:Bl W (b.drew.alloc o):=(k.drew).alloc (by exact k.size) _;exact⟨λB D _=>M.block B D,λn w0 u S=>S.trans (M.mono (Aq u T)),M.size⟩
 rcases h with⟨rfl,rfl⟩|⟨g,cap,d,rfl,h2,Q,h4,h5,h6,h7⟩
 . have s:=run_append_nil (P:=G) b (Gt r) (Gt r) (ER r) i _ X V hz ⟨W.heap.size,0,none⟩ 1 1 [C a l c,H .i64 (t:Int)] (by rw[y];rfl) I Y Y (by rw[ae];omega);rw[Qk]at s;refine⟨_,_,s,?_,fin _⟩;have:=grown [] 0 1 rfl (by rw[Ao];exact Gf.snoc (cs:=[]) (L:=[]) ⟨rfl,λj p t e=>by simp at e⟩ Ql) rfl;simpa using this
 . have A:b.heap[g]?=some (E d (ER r) (0,0)):=(k.block g (Ab.1 Q).1).trans Q;have x:(d.toList.take (L.length*2)).length=L.length*2:=by rw[Al];have h0:d.toList.length=d.size:=CS;omega
   have Qj:=(h7.below k).snoc (t:=t) Ql;by_cases af:L.length+1<=cap
   . have s:=run_append_room (P:=G) b (Gt r) (Gt r) (ER r) i X V g L.length cap d A ⟨W.heap.size,0,none⟩ 1 1 [C a l c,H .i64 (t:Int)] (by rw[y];rfl) I Qh af (by rw[y];simp;omega);rw[y]at s;obtain⟨q,U⟩:=ex ((d.toList.take (L.length*2)++[Value.slice a l c,H .i64 (t:Int)]++d.toList.drop (L.length*2+[Value.slice a l c,H .i64 (t:Int)].length)).toArray);rw[U]at s;have Qo:=setRow_heap b g d q (ER r) (0,0) A;have Qd:Hf r b (b.setRow g q):=λB D u=>setRow_other b g B q λe=>u d (0,0) (by rw[e];exact A);have Qg:b.heap.size<=(b.setRow g q).heap.size:=(below_setRow (B:=0) (BB _ b) (AK _) q).size;refine⟨_,_,s,?_,λB D u=>?_,λn w0 u S=>below_setRow (S.trans (k.mono (Aq u T))) (Aq u h2) q,Aq k.size Qg⟩
     . refine Or.inr ⟨g,cap,q,by rw[Ai];rfl,h2,Qo,by rw[Ai];exact af,h5,?_,?_⟩
       . rw[<-U];simp only[An,Ai,AV,x,Am,AD];have h0:d.toList.length=d.size:=CS;omega
       . have e:q.toList.take ((L++[(p,t)]).length*2)=d.toList.take (L.length*2)++[C a l c,H .i64 (t:Int)]:=by
          rw[<-U];have K:(L++[(p,t)]).length*2=(d.toList.take (L.length*2)++[Value.slice a l c,H .i64 (t:Int)]).length:=by simp[x];omega
          rw[K];exact List.take_left
         rw[e];exact Qj.keep λ_ _ g=>Qd.rowK g
     . have Qn:B≠g:=λe=>u d (0,0) (by rw[e];exact Q);exact(setRow_other b g B q Qn).trans (k.block B D)
   . have ah:∀j c',(d.toList.take (L.length*2))[j]?=some c'->b.cell? ((⟨g,0,none⟩:Addr).add j)=some c':=λj c' f=>by
      rw[Y5,A8];rw[Fs]at f;split at f
      . rw[Ck]at f;exact cell_of A f
      . cases f
     have s:=run_append_grow (P:=G) b (Gt r) (Gt r) (ER r) i _ X V hz ⟨g,0,none⟩ L.length cap (d.toList.take (L.length*2)) (by rw[y];exact x) ah ⟨W.heap.size,0,none⟩ 1 1 [C a l c,H .i64 (t:Int)] (by rw[y];rfl) I Y Y (by rw[ae];exact growslice_fits Y Y);rw[Qk]at s;exact⟨_,_,s,grown _ cap _ rfl Qj x,fin _⟩
namespace M3
theorem Mem.farP{w W W':F}{bs:List (Option (Nat × Dat))}{r:Bool}(M:Mem w W bs)(a:Hf r W W')(e:Bl w W')(f:∀(i:Nat) B d,bs[i]?=some (some (B,d))->d.ty≠ER r):Mem w W' bs:=by
 refine⟨λi B d h=>?_,M.2.1,e⟩;obtain⟨⟨cs,b,c⟩,j⟩:=M.1 i B d h;exact⟨⟨cs,(a.at b (f i B d h)).trans b,c.keep (λ_ _ _ g=>a.row g) (Or.inr λ_ _ g=>a.rowK g)⟩,j⟩
end M3

