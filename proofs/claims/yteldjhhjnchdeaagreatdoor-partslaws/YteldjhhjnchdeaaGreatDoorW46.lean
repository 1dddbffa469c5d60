import Derived.Test.YteldjhhjnchdeaaGreatDoorW45
open Go.Value renaming slice->C,pointer->L,agg->R,int->D
open Go renaming World->F,Value->N
open Go.Proofs.Tryz renaming prog->G
open Go.Obj renaming cells->E
set_option maxRecDepth 100000
set_option maxHeartbeats 16000000
namespace Go.Proofs.YteldjhhjnchdeaaGreatDoor
namespace M3
open Go.RowKit Go.Shelf
attribute [local go_sem] Oper.semAt_some
variable{ps:List Rat}{B l:Nat}{v:N}{W w:F}
theorem aX(n:Nat)(a d:Option Addr)(c b g f:Nat)(w:F):
 CallsIn Fence.wide n G 25 #[R #[C a c b],R #[C d g f]] w λe i=>e=.returned (.func (.func 55) #[] #[L (some ⟨w.heap.size,0,none⟩),L (some ⟨w.heap.size+1,0,none⟩)])/\i=(w.alloc (E #[C a c b] 25)).alloc (E #[C d g f] 25):=by
 refine Bs Tryz.func25 rfl trivial ?_ rfl;simp only[Tryz.ntmps25,Ar,Ao,AF,Nat.reduceAdd,Nat.reduceSub,AA,AB,AR,AH,At,AE];gi_wp2;go_ret;exact⟨rfl,rfl⟩
def QX(B:Nat)(I:List (List Rat)->F->Prop)(H:List (List Rat))(W:F):Exit->Act->F->Prop
 |.normal,_,W'=>I H W'/\W.heap.size<=W'.heap.size/\(∀(k:Nat) (o:Obj),B<=k->W.heap[k]?=some o->W'.heap[k]?=some o)/\∀v ps,Jc W v ps->Jc W' v ps
 |_,_,_=>False
theorem QY{W':F}{row:Option Nat}(a:W.grownBy W' row)(b:∀r,row=some r->∃o:Obj,W.heap[r]?=some o/\o.isCells=false)(h:Jc W v ps):Jc W' v ps:=by
 obtain⟨u,e,h⟩:=h;exact⟨u,e,Hr a b h⟩
theorem LP{o a:Obj}(hl:W.heap[l]?=some o)(b:o.isCells=false)(h:Jc W v ps):Jc (W.putObj l a) v ps:=
 QY (BU W l a) (λr e=>by cases e;exact⟨o,hl,b⟩) h
theorem aY{g:Operand}{ps:Array Tmp}{assign body:Code}{Q:Exit->Act->F->Prop}{a:Act}{w:F}{n:Nat}
(h1:2<=n){K S T:Nat}{pa qa:Option Addr}{pl pc ql qc:Nat}{p q:List Rat}(ba:ChOk K p q)(ap:Di w S pa pl pc)(aq:Di w T qa ql qc)(ip:Jc w (R #[C pa pl pc]) p)(iq:Jc w (R #[C qa ql qc]) q)
(hg:a.eval g=.func (.func 55) #[] #[L (some ⟨S,0,none⟩),L (some ⟨T,0,none⟩)])(eg:∀args w,(callFunc 55 args).run G w=.ok (.enter 55 args) w)(bc:ps.size=1)
(I:List (List Rat)->F->Prop)(hI:OwnFrom w.heap.size I)(af:GB I)(ak:GS w.heap.size I)(h0:I [] w)(a₁:N->Nat->Act)
(am:∀(l:Nat) (x:Option Addr) (o m:Nat) (W:F) (K:Act->F->Prop),K (a₁ (C x o m) W.heap.size) (W.alloc (E #[C x o m] 25))->
  assign.wpIn (Fence.wide.inRound l) (n-1-1) G (Exit.then K λ_ _ _=>False) { tmps:=(ps.zip #[R #[C x o m]]).foldl (λt (p,v)=>t.setIfInBounds p v) a.tmps,defers:=[] } W)
(an:∀(l b:Nat) (x:Option Addr) (o m:Nat) (r:List Rat) (H:List (List Rat)) (W:F),I H W->w.heap.size+1<b->Di W b x o m->Jc W (R #[C x o m]) r->
  body.wpIn (Fence.wide.inRound l) (n-1-1) G (QX w.heap.size I (H++[r]) W) (a₁ (C x o m) b) W)
(aw:∀(D:Nat) (W:F) (H:List (List Rat)) (r:List Rat),w.heap.size<=D->I (H++[r]) W->KE p q=H++[r]->Chn p q (Dm K p q) r []->W.heap[D]?=some (.deferred (some []))->Q .normal { a with defers:={ target:=.collected D,args:=#[] }::a.defers } W):
 (Code.rangeFunc g ps assign body).wpIn Fence.wide n G Q a w:=by
 refine wpIn_rangeFunc λfn ay=>?_;rw[show Fence.wide.round=none from rfl];obtain⟨rc,z⟩:∃rc:LoopState->Option Code->Loop,rc=λst pe=>{ state:=st,pending:=pe,fn,tmps:=a.tmps,params:=ps,assign,body,defers:=w.heap.size }:=⟨_,rfl⟩;obtain⟨V,A⟩:=ex ((w.alloc (.deferred (some []))).alloc (.loop (rc .ready none)));have vL:V.heap[w.heap.size+1]?=some (.loop (rc .ready none)):=by
  rw[<-A];have:=BD (w.alloc (.deferred (some []))) (.loop (rc .ready none));rwa[BA]at this
 have vD:V.heap[w.heap.size]?=some (.deferred (some [])):=by
  rw[<-A];exact(Bf _ _ _ J).trans (BD w _)
 have vI:I [] V:=by rw[<-A];exact hI.alloc _ (hI.alloc _ h0)
 have Qe:Bl w V:=by rw[<-A];exact(Ba w _).alloc (by rw[BA];omega) _
 have bj:V.heap.size=w.heap.size+2:=by rw[<-A];simp
 refine⟨w.heap.size+1,[{ target:=.collected w.heap.size,args:=#[] }],V,{ target:=.fn (.func 55) #[L (some ⟨S,0,none⟩),L (some ⟨T,0,none⟩)],args:=#[.func (.yield (w.heap.size+1)) #[] #[]] },V,55,
  #[.func (.yield (w.heap.size+1)) #[] #[]]++#[L (some ⟨S,0,none⟩),L (some ⟨T,0,none⟩)],V,?_,?_,?_,?_,λ_=>by omega,?_⟩
 . rw[<-A,z];exact run_enterLoop_outer _ _ _ _ _
 . simp only[resolve,hg];simp[go_sem]
 . intro f' ah;simp[Target.leads]at ah;subst ah;exact trivial
 . simp[invoke,go_sem,eg]
 refine(aW K (n-1) Z S T pa qa pl pc ql qc p q ba (w.heap.size+1) (w.heap.size+2)
  (λH W=>I H W/\W.heap[w.heap.size+1]?=some (.loop (rc .ready none))/\W.heap[w.heap.size]?=some (.deferred (some [])))
  V Z (ap.below Qe) (aq.below Qe) (ip.below Qe) (iq.below Qe) ?_ ?_ ?_ ⟨vI,vL,vD⟩).mono ?_
 . rintro H W W' ⟨y,hl,d⟩ hb;exact⟨af _ _ _ y hb,(hb.block _ (Ae.1 hl).1).trans hl,(hb.block _ (Ae.1 d).1).trans d⟩
 . rintro H W B x o m u hB hb ⟨y,hl,d⟩;exact⟨ak _ _ _ _ _ _ _ Z hb y,(BC W ⟨B,0,none⟩ u _ (by show w.heap.size+1≠B;omega)).trans hl,(BC W ⟨B,0,none⟩ u _ (by show w.heap.size≠B;omega)).trans d⟩
 . rintro H W B4 B5 i j c4 a5 l5 c5 p4 q5 bh bi bf bg ⟨y,hl,d⟩ h4 h5 i4 i5;have Qf:w.heap.size+1<W.heap.size:=(Ae.1 hl).1;have hy:=run_yield (P:=G) (args:=#[R #[C i j c4]]) hl (by rw[z];exact bc.symm);rw[z]at hy;obtain⟨f,ae⟩:=ex (W.alloc (E #[C i j c4] 25));have s:Bl W f:=by rw[<-ae];exact Ba W _
   have X:f.heap[w.heap.size+1]?=some (.loop (rc .ready none)):=(s.block _ Qf).trans hl;have Ql:f.heap[w.heap.size]?=some (.deferred (some [])):=(s.block _ Z).trans d;have Qj:I H f:=af _ _ _ y s;have Qh:Di f W.heap.size i j c4:=by rw[<-ae];exact BM W 25 (C i j c4)
   refine⟨fn,_,assign,body,hy,roundIn_of_wpIn ay (am _ _ _ _ W _ ?_)⟩;rw[ae];refine⟨_,run_beginRound X (by rw[z]),?_⟩;obtain⟨bx,av⟩:=ex (W.heap.size);have Qu:=h4.below s;have Qr:=h5.below s;have Qv:=i4.below s;have Qn:=i5.below s;rw[av]at Qh Qf bf bg ⊢;have Qg:w.heap.size+1<f.heap.size:=(Ae.1 X).1;obtain⟨c,M⟩:=ex (f.putObj (w.heap.size+1) (.loop { rc .ready none with state:=.busy }));rw[M];have Qo:c.heap[w.heap.size+1]?=some (.loop { rc .ready none with state:=.busy }):=by rw[<-M];exact Bh Qg
   have Qd:∀k,k≠w.heap.size+1->c.heap[k]?=f.heap[k]?:=λk d=>by rw[<-M];exact BR Z
   have Qt:Di c bx i j c4:=(Qd bx Z).trans Qh;have Qk:c.heap[w.heap.size]?=some (.deferred (some [])):=(Qd _ Z).trans Ql;have Qp:I H c:=by rw[<-M];exact hI.putObj _ Qj Z X rfl
   have Qq:Di c B4 i j c4:=(Qd B4 Z).trans Qu;have Qw:Di c B5 a5 l5 c5:=(Qd B5 Z).trans Qr;have Qi:Jc c (R #[C i j c4]) p4:=by rw[<-M];exact LP X rfl Qv
   have Qs:Jc c (R #[C a5 l5 c5]) q5:=by rw[<-M];exact LP X rfl Qn
   refine wpIn_mono (an _ bx i j c4 p4 H c Qp Qf Qt Qi) λe a3 W3 hp=>?_;cases e with
   |normal=>
    obtain⟨az,bm,ad,ai⟩:=hp;have U:=ad _ _ Z Qo;have hr:=run_endRound (P:=G) none U;have Qa:∀k,k≠w.heap.size+1->(W3.putObj (w.heap.size+1) (.loop (rc .ready none))).heap[k]?=W3.heap[k]?:=λk d=>BR Z;have Qm:(Instr.endRound (w.heap.size+1) none).run G W3=.ok (.bool true) (W3.putObj (w.heap.size+1) (.loop (rc .ready none))):=by
     rw[z]at hr ⊢;exact hr
    exact⟨_,_,Qm,rfl,⟨hI.putObj _ az Z U rfl,Bh (Ae.1 U).1,(Qa _ Z).trans (ad _ _ (Aa _) Qk)⟩,
     (Qa _ Z).trans (ad _ _ Z Qq),(Qa _ Z).trans (ad _ _ Z Qw),LP U rfl (ai _ _ Qi),LP U rfl (ai _ _ Qs)⟩
   |ret=>exact hp.elim
   |exit id=>exact hp.elim
   |goto t=>exact hp.elim
   |panic ch=>exact hp.elim
   |outgrown=>exact hp.elim
 . rintro e c ⟨⟨v,rfl⟩,H,r,⟨y,hl,d⟩,hc,hn⟩;exact⟨none,_,by have:=run_endLoop (P:=G) hl (by rw[z];simp);rw[z]at this;exact this,aw _ _ H r (Aa _) (hI.putObj _ y Z hl rfl) hc hn ((BR Z).trans d)⟩
theorem Mem.setFar{V:F}{bs:List (Option (Nat × Dat))}(M:Mem w V bs)(f:w.heap.size<=B){a:Option Addr}{c:Nat}(g:Di V B a l c)(j:∀(i:Nat) B' d,bs[i]?=some (some (B',d))->B'≠B)(u:N):Mem w (V.setCell ⟨B,0,Option.none⟩ u) bs:=by
 refine⟨λi B' d h=>?_,M.2.1,M.2.2.setCell (p:=⟨B,0,Option.none⟩) f u⟩;obtain⟨⟨cs,b,e⟩,k⟩:=M.1 i B' d h;exact⟨⟨cs,b.far (p:=⟨B,0,Option.none⟩) (j i B' d h) u,e.set1 g rfl u⟩,k⟩
def Gh(w:F)(a d:Option Addr)(c b f e:Nat)(H:List (List Rat)):List (Option (Nat × Dat)):=
 [some (w.heap.size,.cell 25 (C a c b)),some (w.heap.size+1,.cell 25 (C d f e)),some (w.heap.size+1+1,.cell 25 (C none 0 0)),some (w.heap.size+1+1+1,.poly (H.getLastD []))]
theorem aZ{a f:Option Addr}{c b j g:Nat}{H:List (List Rat)}{i:Nat}{d:Dat}(e:(Gh w a f c b j g H)[i]?=some (some (B,d))):B<=w.heap.size+1+1+1:=by
 unfold Gh at e;rcases i with _|_|_|_|i<;>simp at e<;>omega
theorem Gu(K:Nat)(va vb:N)(p q:List Rat)(w:F)(ha:Jc w va p)(y:Jc w vb q)(af:ChOk K p q):
 Calls G 8 #[va,vb] w λe U=>∃u,e=.returned u/\Jc U u (Jn p q)/\Bl w U:=by
 obtain⟨f,j,g,rfl⟩:=ha.form;obtain⟨m,t,s,rfl⟩:=y.form;have M0:Mem w _ _:=((((Mem.nil w).push (.cell 25 (C f j g)) (cs:=#[C f j g]) ⟨rfl,rfl⟩).push (.cell 25 (C m t s)) (cs:=#[C m t s]) ⟨rfl,rfl⟩).push (.cell 25 (C none 0 0)) (cs:=#[C none 0 0]) ⟨rfl,rfl⟩).push (.poly []) (cs:=#[C none 0 0]) (FW _);simp only[BA]at M0;obtain⟨W0,ad⟩:=ex ((((w.alloc (E #[C f j g] 25)).alloc (E #[C m t s] 25)).alloc (E #[C none 0 0] 25)).alloc (E #[C none 0 0] 25));have M1:Mem w W0 (Gh w f m j g t s []):=by rw[<-ad];exact M0
 have hN:W0.heap.size=w.heap.size+1+1+1+1:=by rw[<-ad];simp
 obtain⟨Qe,Qg,HN,HP,HQ,Qm⟩:=Kg ad M1 hN (λ(V:F) (hB:Bl w V)=>ha.below hB) (λ(V:F) (hB:Bl w V)=>y.below hB) af;have Qj:=O (λ(V:F) (x:N) (r:List Rat) (hx:Jc V x r) (hc:Chn p q (Dm K p q) r [])=>show Calls G 26 #[x] V λe U=>∃u,e=.returned u/\Jc U u (Jn p q)/\Bl V U by
  have Qb:=af.bd;have h1:=QV x r V hx (DY.of λi=>Sq.of (hc.wa.smq Qb.2.2.2 i) Qb.1) hc.ta (λi=>by
   have h2:=Ln.sqs hc.ta hc.wa.ln Qb.2.2.2 i;unfold Jq at h2;rw[Yi,Ft,FL,<-Ft]at h2;exact Sq.of h2 Qb.1)
  rw[<-hc.gc,QG];exact h1)
 clear ha y af M0 M1 ad hN;refine(BG (n:=3)).1 ?_;refine BT Tryz.func8 rfl trivial ?_ rfl;simp only[Tryz.ntmps8,Ar,Ao,AF,Nat.reduceAdd,Nat.reduceSub,AA,AB,AR,AH,At,AE];gi_wp2_with fail
 rw[Qe.o];refine⟨trivial,?_⟩;refine(aX _ _ _ _ _ _ _ _).mono ?_;rintro e U ⟨rfl,rfl⟩;obtain⟨z,T⟩:=ex ((W0.alloc (E #[C f j g] 25)).alloc (E #[C m t s] 25));have Qi:Bl W0 z:=by rw[<-T];exact(Ba W0 _).alloc (by rw[BA];omega) _
 have nP:Di z W0.heap.size f j g:=by rw[<-T];exact(BM W0 25 (C f j g)).alloc _
 have nQ:Di z (W0.heap.size+1) m t s:=by
  rw[<-T];have:=BM (W0.alloc (E #[C f j g] 25)) 25 (C m t s);rwa[BA]at this
 have M2:=Mem.below Qg.o Qi;have Qf:z.heap.size=w.heap.size+6:=by rw[<-T];simp[HN.o]
 rw[T,HN.o];rw[HN.o]at nP nQ;obtain⟨Qc,Ql,Qn,S⟩:=ED M2 nP nQ Qf;clear M2 nP nQ Qf Qi T Qe HN Qg;gi_wp2_with fail
 refine aY Z Qm.o Ql.o Qn.o (HP.o z Qc.o.2.2) (HQ.o z Qc.o.2.2) rfl (B0 Tryz.func55 (by kernel_rfl) rfl) rfl
  (λH W=>Mem w W (Gh w f m j g t s H)) (λH W W' row M hg hr=>Mem.own M hg λr e=>⟨by have:=(hr r e).1;have:=S.o;omega,(hr r e).2⟩) (λH W W' M y=>Mem.below M y)
  (λH W B a l c u hB y M=>Mem.setFar M (by have:=S.o;omega) y (λi B' d e=>by have:=aZ e;have:=S.o;omega) u) Qc.o
  (λv b=>{ tmps:=#[R #[C f j g],R #[C m t s],L (some ⟨w.heap.size,0,none⟩),L (some ⟨w.heap.size+1,0,none⟩),L (some ⟨w.heap.size+1+1,0,none⟩),L (some ⟨w.heap.size+1+1+1,0,none⟩),L (some ⟨b,0,none⟩),R #[C f j g],R #[C m t s],.func (.func 55) #[] #[L (some ⟨w.heap.size+1+1+1+1,0,none⟩),L (some ⟨w.heap.size+1+1+1+1+1,0,none⟩)],R #[v],undef,undef,undef],defers:=[] }) ?assign ?body ?done
 case assign=>
  intro l x xl xc W K hK;gi_wp2;exact hK
 case body=>
  intro l b x xl xc r H W M y ai hr;obtain⟨ya,yl,yc,Q,r3⟩:=Mem.poly2 M (i:=3) rfl;have e3:=Q.cell;have f3:=Q.frozen;have eb:=ai.cell;have HH:=O (show ∀ah,QX z.heap.size (λH W=>Mem w W (Gh w f m j g t s H)) (H++[r]) W .normal ah (W.setCell ⟨w.heap.size+1+1+1,0,none⟩ (C x xl xc))from λah=>by
   refine⟨?_,?_,λk o hk ho=>?_,λv ps h=>h.setB Q⟩
   . have h4:=Mem.putPoly M (i:=3) rfl hr;show Mem w _ (Gh w f m j g t s (H++[r]));unfold Gh at h4 ⊢;rw[show(H++[r]).getLastD []=r by simp];exact h4
   . rw[World.size_setCell];exact Aa _
   . exact(BC W ⟨w.heap.size+1+1+1,0,none⟩ _ k (by show k≠w.heap.size+1+1+1;have:=S.o;omega)).trans ho)
  clear M y ai hr Q r3;gi_wp2;exact HH.o _
 case done=>
  intro D W H r hD M an ak hK;have Qo:w.heap.size<=D:=by have:=S.o;omega
  have M:Mem w W [some (w.heap.size,.cell 25 (C f j g)),some (w.heap.size+1,.cell 25 (C m t s)),some (w.heap.size+1+1,.cell 25 (C none 0 0)),some (w.heap.size+1+1+1,.poly r)]:=by
   have h4:Mem w W (Gh w f m j g t s (H++[r])):=M;unfold Gh at h4;rwa[show(H++[r]).getLastD []=r by simp]at h4
  obtain⟨ya,yl,yc,Q,r3⟩:=Mem.poly2 M (i:=3) rfl;have e3:=Q.cell;have n2:=(Mem.cell M (i:=2) rfl).1;obtain⟨HC,Qh,HK⟩:=Dh (Qj.o W _ r r3 ak) M.2.2 hK;clear M an ak hK r3 Q Qj;gi_wp2_with(refine⟨trivial,?_⟩;gi_at_call 26;refine((BG (n:=_)).2 HC.o).mono ?_;clear HC;rintro e X ⟨u5,rfl,am,ae⟩;obtain⟨A,P,I,rfl⟩:=am.form;have n5:=boxed_below n2 ae;have x0:=n5.cell;have x1:=n5.frozen)
  have Qd:(X.setCell ⟨w.heap.size+1+1,0,none⟩ (C A P I)).heap[D]?=some (.deferred (some [])):=by
   rw[BC X ⟨w.heap.size+1+1,0,none⟩ _ D (by show D≠w.heap.size+1+1;have:=S.o;omega)];exact(ae.block D (Ae.1 HK.o).1).trans HK.o
  refine⟨J,.inl ⟨_,_,rfl,BW Qd,?_⟩⟩;have q:Di (X.setCell ⟨w.heap.size+1+1,0,none⟩ (C A P I)) (w.heap.size+1+1) A P I:=Di.put (show Di X (w.heap.size+1+1) none 0 0 from n5);have hg:=BU (X.setCell ⟨w.heap.size+1+1,0,none⟩ (C A P I)) D (.deferred none);have Qk:∀r,some D=some r->∃o:Obj,(X.setCell ⟨w.heap.size+1+1,0,none⟩ (C A P I)).heap[r]?=some o/\o.isCells=false:=λr e=>by cases e;exact⟨_,Qd,rfl⟩
  have q2:Di _ (w.heap.size+1+1) A P I:=Y9 hg Qk q;have g0:=q2.cell;refine⟨R #[C A P I],by simp[results,Tryz.results8,go_sem,g0],_,rfl,?_,?_⟩
  . exact QY hg Qk (am.setB n5)
  . exact((Bt Qh.o ae).setCell (p:=⟨w.heap.size+1+1,0,none⟩) (by show w.heap.size<=w.heap.size+1+1;omega) _).trans (DK (w:=w) (Aa _) _ D _ _ Qo Qd rfl rfl)
end M3
section
def Dv(a b:List Rat):Prop:=∃c:List Rat,∀x,ev b x=ev a x*ev c x
def Dj(a b:List Rat):Prop:=∃u v:List Rat,∀x,ev u x*ev a x+ev v x*ev b x=1
section
variable {a b c d p q:List Rat}
theorem Dv.refl(a:List Rat):Dv a a:=⟨[1],λx=>by simp[ev];grind⟩
theorem Dv.trans(h:Dv a b)(d:Dv b c):Dv a c:=by
 obtain⟨u,e⟩:=h;obtain⟨v,f⟩:=d;exact⟨Jp u v,λx=>by rw[f,e,Jj];grind⟩
theorem Dv.zero(a:List Rat):Dv a []:=⟨[],λx=>by simp[ev]⟩
theorem Dv.mul(h:Dv a b)(c:List Rat):Dv a (Jp b c):=by
 obtain⟨u,d⟩:=h;exact⟨Jp u c,λx=>by rw[Jj,d,Jj];grind⟩
theorem Dv.mul'(h:Dv a b)(c:List Rat):Dv a (Jp c b):=by
 obtain⟨u,d⟩:=h;exact⟨Jp u c,λx=>by rw[Jj,d,Jj];grind⟩
theorem Dv.comb(h:Dv d a)(e:Dv d b)(u v:List Rat)(f:∀x,ev c x=ev u x*ev a x+ev v x*ev b x):Dv d c:=by
 obtain⟨s,hs⟩:=h;obtain⟨t,g⟩:=e;exact⟨XZ (Jp u s) (Jp v t),λx=>by rw[f,hs,g,Y6,Jj,Jj];grind⟩
theorem Dv.of_sc{k:Rat}(c:k≠0)(h:Dv a b):Dv (Da k a) b:=by
 obtain⟨u,d⟩:=h;have e:(1/k)*k=1:=A4 c;exact⟨Da (1/k) u,λx=>by rw[d,Yr,Yr];grind⟩
theorem Dv.sc(h:Dv a b)(k:Rat):Dv a (Da k b):=by
 obtain⟨u,c⟩:=h;exact⟨Da k u,λx=>by rw[Yr,c,Yr];grind⟩
theorem Dj.symm(h:Dj a b):Dj b a:=by
 obtain⟨u,v,h⟩:=h;exact⟨v,u,λx=>by rw[<-h x];grind⟩
theorem Dj.of_dv(h:Dj a b)(c:Dv d a):Dj d b:=by
 obtain⟨u,v,h⟩:=h;obtain⟨s,hs⟩:=c;exact⟨Jp u s,v,λx=>by rw[<-h x,hs x,Jj];grind⟩
theorem Dj.dv(h:Dj a b)(e:Dv a (Jp b c)):Dv a c:=by
 obtain⟨u,v,h⟩:=h;obtain⟨k,f⟩:=e;refine⟨XZ (Jp u c) (Jp v k),λx=>?_⟩;have g:=h x;have d:=f x;rw[Jj]at d;rw[Y6,Jj,Jj];grind
theorem Dj.mul(h:Dj a b)(d:Dj a c):Dj a (Jp b c):=by
 obtain⟨u,v,h⟩:=h;obtain⟨s,t,d⟩:=d;refine⟨XZ u (Jp (Jp v b) s),Jp v t,λx=>?_⟩;have e:=h x;have f:=d x;rw[Y6,Jj,Jj,Jj,Jj];grind
end
theorem LQ{p:List Rat}(x:Rat):ev (Jq p) x=ev p x*(1/cf p (p.length-1)):=Yr _ _ _
theorem ar:∀(n:Nat) (p q:List Rat),Jd p=p->Jd q=q->q.length<=n->Dv (X8 n p q) p/\Dv (X8 n p q) q/\∃u v:List Rat,∀x,ev (X8 n p q) x=ev u x*ev p x+ev v x*ev q x:=by
 intro n;induction n with
 |zero=>
  intro p q hp hq hl;have a:q=[]:=LE Z;subst a;rw[X8];refine⟨?_,Dv.zero _,[1/cf p (p.length-1)],[],λx=>by rw[LQ];simp[ev];grind⟩;by_cases b:p=[]
  . subst b;exact Dv.refl _
  . exact Dv.of_sc (IW (Jw hp b)) (Dv.refl _)
 |succ n g=>
  intro p q hp hq hl;by_cases a:q=[]
  . subst a;simp only[X8,BJ];refine⟨?_,Dv.zero _,[1/cf p (p.length-1)],[],λx=>by rw[LQ];simp[ev];grind⟩;by_cases b:p=[]
    . subst b;exact Dv.refl _
    . exact Dv.of_sc (IW (Jw hp b)) (Dv.refl _)
  . simp only[X8,BH a];obtain⟨d,j,k,i⟩:=YW p q hq a;obtain⟨c,e,u,v,f⟩:=g q (J5 p q) hq i Z;refine⟨c.comb e (Jt p q) [1] (λx=>by rw[d x];simp[ev];grind),c,v,JE u (Jp v (Jt p q)),λx=>?_⟩;rw[f x,d x,XO,Jj];grind
section
variable {p q d:List Rat}
theorem YN(hp:Jd p=p)(hq:Jd q=q):Dv (Jn p q) p/\Dv (Jn p q) q/\∃u v:List Rat,∀x,ev (Jn p q) x=ev u x*ev p x+ev v x*ev q x:=ar _ p q hp hq (Aa _)
theorem KG(hp:Jd p=p)(hq:Jd q=q)(a:Dv d p)(b:Dv d q):Dv d (Jn p q):=by
 obtain⟨_,_,u,v,h⟩:=YN hp hq;exact a.comb b u v h
theorem bA:∀(n:Nat) (p q:List Rat),Jd p=p->Jd q=q->q.length<=n->Jq (X8 n p q)=X8 n p q:=by
 intro n;induction n with
 |zero=>intro p q hp _ _;exact Jx hp
 |succ n b=>
  intro p q hp hq hl;rw[X8];split
  . exact Jx hp
  . rename_i a;have:=(YW p q hq a).2.1;exact b _ _ hq (Y2 _ _) Z
theorem YO(hp:Jd p=p)(hq:Jd q=q):Jq (Jn p q)=Jn p q:=bA _ p q hp hq (Aa _)
end
variable{a b g p q:List Rat}
theorem Y4(hp:Jd p=p)(h:∀x,ev p x=0):p=[]:=YU hp rfl (λx=>by rw[h x];rfl)
theorem Dv.some(d:Jd b=b)(h:Dv a b):∃c,Jd c=c/\b=Jp a c:=by
 obtain⟨c,e⟩:=h;exact⟨Jd c,Ya _,YU d (Jy _ _) λx=>by rw[Jj,Xt,e]⟩
theorem Yw(a:List Rat):Jp a []=[]:=Y4 (Jy _ _) λx=>by rw[Jj];simp[ev]
theorem Dv.anti(o:Jd a=a)(j:Jd b=b)(h:Dv a b)(r:Dv b a):∃k:Rat,k≠0/\b=Da k a:=by
 obtain⟨c,p,e⟩:=h.some j;obtain⟨d,s,i⟩:=r.some o;by_cases g:a=[]
 . refine⟨1,DL,?_⟩;rw[e,g];rfl
 . have n:b≠[]:=λf=>g (by rw[i,f];rfl);have m:c≠[]:=λf=>n (by rw[e,f];exact Yw _);have l:d≠[]:=λf=>g (by rw[i,f];exact Yw _);have l1:=JD o p g m;have l2:=JD j s n l;rw[<-e]at l1;rw[<-i]at l2;have u:0<c.length:=Aj.2 m;have v:0<d.length:=Aj.2 l;have w:0<a.length:=Aj.2 g;have q:c.length=1:=Z
   match c,q with
   |[k],_=>
    have t:k≠0:=by
     have:=Jw p J;simpa[YK]using this
    refine⟨k,t,YU j (JP _ _) λx=>?_⟩;rw[e,Jj,Yr];simp[ev];grind
theorem Dv.eq(c:Jd a=a)(f:Jd b=b)(ma:Jq a=a)(mb:Jq b=b)(h:Dv a b)(d:Dv b a):a=b:=by
 obtain⟨k,g,e⟩:=h.anti c f d;rw[<-mb,e,LI g c,ma]
theorem JY(e:Jd g=g)(a:g≠[])(h:Dv g p):J5 p g=[]/\∀x,ev p x=ev g x*ev (Jt p g) x:=by
 obtain⟨c,d⟩:=h;have b:=LF (p:=p) (u:=Jd c) (v:=[]) e a (Ya _) rfl (Aj.2 a) (λx=>by rw[d,Xt];simp[ev];grind);refine⟨b.2.symm,λx=>?_⟩;rw[<-b.1,Xt,d]
theorem YG{u v:List Rat}(i:Jd g=g)(b:g≠[])(h:∀x,ev g x*ev u x=ev g x*ev v x):∀x,ev u x=ev v x:=by
 have d:Jp g (JE u v)=[]:=Y4 (Jy _ _) λx=>by rw[Jj,XO];have:=h x;grind
 have e:JE u v=[]:=by
  by_cases a:JE u v=[]
  . exact a
  . exfalso
    have l:=JD i (Yj u v) b a;rw[d]at l;have j:0<g.length:=Aj.2 b;have k:0<(JE u v).length:=Aj.2 a;simp at l;omega
 intro x;have c:=Bo (λr=>ev r x) e;simp only[XO]at c;have f:ev [] x=0:=rfl;rw[f]at c;grind
theorem LR(hp:Jd p=p)(hq:Jd q=q)(a:Jn p q≠[]):Dj (Jt p (Jn p q)) (Jt q (Jn p q)):=by
 obtain⟨f,g,u,v,i⟩:=YN hp hq;have c:=JK p q;have d:=(JY c a f).2;have e:=(JY c a g).2;refine⟨u,v,?_⟩;have j:=YG (u:=XZ (Jp u (Jt p (Jn p q))) (Jp v (Jt q (Jn p q)))) (v:=[1]) c a (λx=>by
  rw[Y6,Jj,Jj];have b:=i x;have k:=d x;have l:=e x;simp[ev];grind)
 intro x;have b:=j x;rw[Y6,Jj,Jj]at b;rw[b];simp[ev];grind
theorem XV(hp:Jd p=p)(hq:Jd q=q)(h:p≠[]\/q≠[]):Jn p q≠[]:=λe=>by
 obtain⟨a,b,_⟩:=YN hp hq;rw[e]at a b;obtain⟨c,f⟩:=a;obtain⟨d,g⟩:=b;rcases h with h|h
 . exact h (Y4 hp λx=>by rw[f];simp[ev])
 . exact h (Y4 hq λx=>by rw[g];simp[ev])
end
section
variable {a b c d e f g k p q r u w y z R:List Rat}
theorem Xb(p q:List Rat)(x:Rat):ev (Je (Jp p q)) x=ev (Je p) x*ev q x+ev p x*ev (Je q) x:=by
 rw[Rw,Y6,Jj,Jj]
theorem Xr(p:List Rat)(i:Nat):cf (Je p) i=cf p (i+1)*(((i+1:Nat):Int):Rat):=by
 unfold Je;rw[Yd,Hz];rfl
theorem YR(a:p≠[]):(Je p).length<p.length:=by
 have b:0<p.length:=Aj.2 a;have c:(Je p).length<=p.length-1:=XB (JV _) λi d=>by
  rw[Xr,J6 Z,Cx]
 omega
theorem bB(hp:Jd p=p)(h:Je p=[]):p.length<=1:=by
 refine XB hp λi d=>?_;obtain⟨j,rfl⟩:∃j,i=j+1:=⟨i-1,Z⟩;have b:=Xr p j;rw[h,Yy]at b;rcases C8.1 b.symm with a|a
 . exact a
 . exfalso
   have c:((j+1:Nat):Int)=0:=by exact_mod_cast a
   omega
theorem NG(hp:Jd p=p)(a:p≠[])(hl:p.length<=1):Dv p [1]:=by
 have b:0<p.length:=Aj.2 a;match p,hl,hp,a with
 |[c],_,hp,_=>
  have d:c≠0:=by
   have:=Jw hp J;simpa[YK]using this
  exact⟨[1/c],λx=>by simp[ev];grind⟩
theorem NH(b:Jd u=u)(a:u≠[])(h:Dv u (Je u)):Dv u [1]:=by
 refine NG b a (bB b ?_);obtain⟨c,i,e⟩:=h.some (JV u);by_cases f:Je u=[]
 . exact f
 . exfalso
   have d:c≠[]:=λg=>f (by rw[e,g];exact Yw _);have l1:=JD b i a d;have l2:=YR a;have j:0<c.length:=Aj.2 d;rw[<-e]at l1;omega
theorem NI(f:Jd a=a)(g:Jd b=b)(c:a≠[])(d:b≠[]):Jp a b≠[]:=λe=>by
 have l:=JD f g c d;have i:0<a.length:=Aj.2 c;have j:0<b.length:=Aj.2 d;rw[e]at l;simp at l;omega
theorem bC(H:Jd d=d)(r:d≠[])(h:Dv d (Jp (Je d) f)):∀(n:Nat) (u:List Rat),Jd u=u->d.length-u.length<=n->Dv u d->Dj u f->Dv u [1]:=by
 intro n;induction n with
 |zero=>
  intro u b hl p l;obtain⟨m,o,e⟩:=p.some H;have a:u≠[]:=λg=>r (by rw[e,g];rfl);have w:m≠[]:=λg=>r (by rw[e,g];exact Yw _);have l1:=JD b o a w;rw[<-e]at l1;have p3:0<u.length:=Aj.2 a;have T:m.length<=1:=Z
  have U:=NG o w T;have S:Dv d u:=by
   obtain⟨c,j⟩:=U;refine⟨c,λx=>?_⟩;have y:=j x;rw[e,Jj,Rat.mul_assoc,<-y];simp[ev];grind
  have i:Dv u (Jp f (Je d)):=by
   obtain⟨c,j⟩:=p.trans h;exact⟨c,λx=>by rw[<-j,Jj,Jj];grind⟩
  have z:=l.dv i;refine NH b a ?_;obtain⟨k,hk,V⟩:=S.anti H b p;have A:Je u=Da k (Je d):=by
   refine YU (JV _) (JP _ _) λx=>?_;rw[V,Yr];have B:Da k d=Jp d [k]:=YU (JP _ _) (Jy _ _) λx=>by rw[Yr,Jj];simp[ev];grind
   rw[B,Xb];have M:ev (Je [k]) x=0:=by rw[KS];simp[dv,ev];grind
   rw[M];simp[ev];grind
  rw[A];exact z.sc k
 |succ n ih=>
  intro u b hl p l;obtain⟨m,o,e⟩:=p.some H;have a:u≠[]:=λg=>r (by rw[e,g];rfl);have w:m≠[]:=λg=>r (by rw[e,g];exact Yw _);obtain⟨W,X,s,t,g3⟩:=YN b o;have K:=XV b o (Or.inl a);have I:=JK u m;by_cases hg:(Jn u m).length<=1
  . obtain⟨c,j⟩:=NG I K hg;have Q:Dj u m:=⟨Jp s c,Jp t c,λx=>by
     have y:=j x;have i:=g3 x;rw[Jj,Jj];have z:ev [1] x=1:=by simp[ev];grind
     rw[z]at y;grind⟩
    have i:Dv u (Jp f (Jp m (Je u))):=by
     obtain⟨v,q⟩:=h;refine⟨JE (Jp m v) (Jp f (Je m)),λx=>?_⟩;have A:=q x;have B:=Xb u m x;rw[<-e]at B;have M:ev d x=ev u x*ev m x:=by rw[e,Jj]
     rw[Jj]at A;rw[Jj,Jj,XO,Jj,Jj];grind
    exact NH b a (Q.dv (l.dv i))
  . have P:Dv (Jp u (Jn u m)) d:=by
     obtain⟨v,q⟩:=X;exact⟨v,λx=>by rw[e,Jj,q,Jj];grind⟩
    have l1:=JD b I a K;have p3:0<u.length:=Aj.2 a;have i:=ih (Jp u (Jn u m)) (Jy _ _) Z P (l.symm.mul (l.of_dv W).symm).symm;obtain⟨v,q⟩:=i;exact⟨Jp (Jn u m) v,λx=>by rw[q,Jj,Jj];grind⟩
structure Yun(R w y:List Rat):Prop where
 tR:Jd R=R
 R0:R≠[]
 tw:Jd w=w
 w0:w≠[]
 mw:Jq w=w
 ty:Jd y=y
 eq:∀x,ev y x*ev R x=ev w x*ev (Je R) x
 cop:Dj w y
theorem Yun.dv(h:Yun R w y):Dv w R:=by
 refine h.cop.dv ⟨Je R,λx=>?_⟩;rw[Jj,h.eq]
theorem NJ(f:Jd w=w)(w0:w≠[])(mw:Jq w=w)(d:Jd g=g)(p:Jq g=g)(h:Dv g w):Jq (Jt w g)=Jt w g/\g≠[]/\Jt w g≠[]/\w=Jp g (Jt w g):=by
 have a:g≠[]:=λe=>w0 (by
  obtain⟨c,m⟩:=h;exact Y4 f λx=>by rw[m,e];simp[ev])
 have e:=(JY d a h).2;have b:w=Jp g (Jt w g):=YU f (Jy _ _) λx=>by rw[Jj,<-e]
 have q0:Jt w g≠[]:=λj=>w0 (by rw[b,j];exact Yw _);refine⟨?_,a,q0,b⟩;have l:=JD d (J9 w g) a q0;have r:0<g.length:=Aj.2 a;have q:0<(Jt w g).length:=Aj.2 q0;have i:cf w (w.length-1)=cf g (g.length-1)*cf (Jt w g) ((Jt w g).length-1):=by
  obtain⟨Q,k⟩:=ex (Jt w g);rw[k]at b l q ⊢;rw[b,l,show g.length+Q.length-1-1=(g.length-1)+(Q.length-1)by omega];unfold Jp;rw[Yd];exact Le g Q (g.length-1) (Q.length-1) Z Z
 have o:cf w (w.length-1)=1:=by have:=LK f w0;rwa[mw]at this
 have n:cf g (g.length-1)=1:=by have:=LK d a;rwa[p]at this
 rw[o,n,FL]at i;unfold Jq;rw[<-i,show(1:Rat)/1=1 by grind];exact IU (J9 _ _)
theorem Yun.step(h:Yun R w y):Jn w (Jt R w)=Jt w (Jn w (JE y (Je w)))/\Jt w (Jn w (Jt R w))=Jn w (JE y (Je w))/\
 Yun (Jt R w) (Jt w (Jn w (JE y (Je w)))) (Jt (JE y (Je w)) (Jn w (JE y (Je w))))/\R=Jp w (Jt R w)/\
 (∀x,ev (JE y (Je w)) x*ev (Jt R w) x=ev w x*ev (Je (Jt R w)) x)/\w=Jp (Jn w (JE y (Je w))) (Jt w (Jn w (JE y (Je w)))):=by
 obtain⟨r,hr⟩:=ex (Jt R w);obtain⟨z,Q⟩:=ex (JE y (Je w));have tr:Jd r=r:=by rw[<-hr];exact J9 _ _
 have U:Jd z=z:=by rw[<-Q];exact Yj _ _
 have eR:∀x,ev R x=ev w x*ev r x:=by rw[<-hr];exact(JY h.tw h.w0 h.dv).2
 have V:R=Jp w r:=YU h.tR (Jy _ _) λx=>by rw[Jj,eR]
 have r0:r≠[]:=λe=>h.R0 (by rw[V,e];exact Yw _);have Qf:∀x,ev z x*ev r x=ev w x*ev (Je r) x:=by
  have b:=YG (g:=w) (u:=Jp z r) (v:=Jp w (Je r)) h.tw h.w0 (λx=>by
   have a:=h.eq x;have i:=Xb w r x;rw[<-V]at i;rw[Jj,Jj,<-Q,XO];have K:=eR x;grind)
  intro x;have a:=b x;rwa[Jj,Jj]at a
 have X:=JV r;obtain⟨d,B⟩:=ex (Jn r (Je r));have I:Jd d=d:=by rw[<-B];exact JK _ _
 have d0:d≠[]:=by rw[<-B];exact XV tr X (Or.inl r0)
 obtain⟨g1,g2,_⟩:=YN tr X;rw[B]at g1 g2;obtain⟨f,hf⟩:=ex (Jt r d);obtain⟨e,he⟩:=ex (Jt (Je r) d);have q:∀x,ev r x=ev d x*ev f x:=by rw[<-hf];exact(JY I d0 g1).2
 have ee:∀x,ev (Je r) x=ev d x*ev e x:=by rw[<-he];exact(JY I d0 g2).2
 have tf:Jd f=f:=by rw[<-hf];exact J9 _ _
 have f0:f≠[]:=λe2=>r0 (Y4 tr λx=>by rw[q,e2];simp[ev]);have Qi:Dj f e:=by
  have:=LR tr X (by rw[B];exact d0);rwa[B,hf,he]at this
 have Qh:∀x,ev z x*ev f x=ev w x*ev e x:=by
  have b:=YG (g:=d) (u:=Jp z f) (v:=Jp w e) I d0 (λx=>by
   have a:=Qf x;rw[q,ee]at a;rw[Jj,Jj];grind)
  intro x;have a:=b x;rwa[Jj,Jj]at a
 have Qg:Dv f w:=Qi.dv (⟨z,λx=>by rw[Jj];have:=Qh x;grind⟩);obtain⟨k,tk,ek⟩:=Qg.some h.tw;have j:∀x,ev w x=ev f x*ev k x:=λx=>by rw[ek,Jj]
 have W:∀x,ev z x=ev k x*ev e x:=by
  have b:=YG (g:=f) (u:=z) (v:=Jp k e) tf f0 (λx=>by
   have a:=Qh x;rw[j]at a;rw[Jj];grind)
  intro x;have a:=b x;rwa[Jj]at a
 obtain⟨P,l⟩:=ex (Jn w z);have m:Jd P=P:=by rw[<-l];exact JK _ _
 have mP:Jq P=P:=by rw[<-l];exact YO h.tw U
 obtain⟨S,p2,_⟩:=YN h.tw U;have Qo:Dv k P:=by rw[<-l];exact KG h.tw U ⟨f,λx=>by rw[j];grind⟩ ⟨e,W⟩
 rw[l]at S p2;have Qm:Dv P k:=by
  obtain⟨u,v,H⟩:=Qi;refine S.comb p2 u v λx=>?_;have b:=H x;rw[j,W];grind
 obtain⟨m1,p,n0,eW⟩:=NJ h.tw h.w0 h.mw m mP S;have zP:=(JY m p p2).2;have o:=(JY m p S).2;have Ql:Dj k y:=h.cop.of_dv ⟨f,λx=>by rw[j];grind⟩;have Qq:Dj k f:=by
  obtain⟨u,v,H⟩:=Ql;refine⟨XZ u (Jp v (XZ e (Je f))),Jp v (Je k),λx=>?_⟩;have b:=H x;have a:ev y x=ev z x+ev (Je w) x:=by rw[<-Q,XO];grind
  have i:=Xb f k x;rw[<-ek]at i;have K:=W x;rw[Y6,Jj,Jj,Y6];grind
 have Qj:Dv d (Jp (Je d) f):=by
  refine⟨JE e (Je f),λx=>?_⟩;have b:r=Jp d f:=YU tr (Jy _ _) λx=>by rw[Jj,q]
  have a:=Xb d f x;rw[<-b,ee]at a;rw[Jj,XO];grind
 have Qp:Dj k d:=by
  obtain⟨q1,q2,s,t,q3⟩:=YN tk I;obtain⟨c,A⟩:=bC I d0 Qj (d.length) (Jn k d) (JK _ _) Z q2 (Qq.of_dv q1);refine⟨Jp s c,Jp t c,λx=>?_⟩;have b:=A x;have a:=q3 x;have i:ev [1] x=1:=by simp[ev];grind
  rw[i]at b;rw[Jj,Jj];grind
 obtain⟨c1,c2,s,t,c3⟩:=YN h.tw tr;have Qk:Dv f (Jn w r):=KG h.tw tr Qg ⟨d,λx=>by rw[q];grind⟩;have Qs:Dv (Jn w r) f:=by
  obtain⟨u,v,H⟩:=Qp;refine c1.comb c2 u v λx=>?_;have b:=H x;rw[j,q];grind
 obtain⟨n,M⟩:=ex (Jt w P);rw[M]at m1 n0 eW o;have T:Jd n=n:=by rw[<-M];exact J9 _ _
 have Qt:Dv f n:=by
  obtain⟨c,A⟩:=Qm;refine⟨c,λx=>?_⟩;have b:=YG (g:=P) (u:=n) (v:=Jp f c) m p (λx=>by
   have a:=o x;have i:=j x;have K:=A x;rw[Jj];grind)
  have a:=b x;rwa[Jj]at a
 have Qn:Dv n f:=by
  have k0:k≠[]:=λe2=>h.w0 (by rw[ek,e2];exact Yw _);obtain⟨c,A⟩:=Qo;refine⟨c,λx=>?_⟩;have b:=YG (g:=k) (u:=f) (v:=Jp n c) tk k0 (λx=>by
   have a:=o x;have i:=j x;have K:=A x;rw[Jj];grind)
  have a:=b x;rwa[Jj]at a
 have hG:Jn w r=n:=Dv.eq (JK _ _) T (YO h.tw tr) m1 (Qs.trans Qt) (Qn.trans Qk);have Qr:Dv n w:=⟨P,λx=>by rw[o];grind⟩;have Qb:Jt w n=P:=by
  refine YU (J9 _ _) m λx=>?_;have b:=(JY T n0 Qr).2;refine YG (g:=n) (u:=Jt w n) (v:=P) T n0 (λx=>?_) x;have a:=b x;have i:=o x;grind
 rw[hr,Q,l,M];refine⟨hG,by rw[hG];exact Qb,⟨tr,r0,T,n0,m1,J9 _ _,λx=>?_,?_⟩,V,Qf,eW⟩
 . refine(YG (g:=P) (u:=Jp (Jt z P) r) (v:=Jp n (Je r)) m p (λx=>?_) x |> λb=>by rwa[Jj,Jj]at b);have a:=Qf x;have i:=zP x;have K:=o x;rw[Jj,Jj];grind
 . have:=LR h.tw U (by rw[l];exact p);rwa[l,M]at this
theorem Yun.start(tp:Jd p=p)(c:p≠[])(k:Jq p=p):Yun p (Jt p (Jn p (Je p))) (Jt (Je p) (Jn p (Je p))):=by
 have a:=JV p;obtain⟨d,i,_⟩:=YN tp a;have b:=XV tp a (Or.inl c);obtain⟨j,_,n0,e⟩:=NJ tp c k (JK _ _) (YO tp a) d;have f:=(JY (JK p (Je p)) b d).2;have g:=(JY (JK p (Je p)) b i).2;refine⟨tp,c,J9 _ _,n0,j,J9 _ _,λx=>?_,LR tp a b⟩;have l:=f x;have m:=g x;grind
end
section
open Go.RowKit Go.Shelf
def Cd(M:Nat)(p:List Rat):Prop:=∃D:Int,D≠0/\Sm M D/\D9 D M p
section
variable {M N:Nat} {p q:List Rat}
theorem Cd.mono(h:Cd M p)(a:M<=N):Cd N p:=by
 obtain⟨D,d1,b,c⟩:=h;exact⟨D,d1,b.mono a,λi=>(c i).mono a⟩
theorem Cd.smq(h:Cd M p)(i:Nat):DX M (cf p i):=by
 obtain⟨D,d1,a,b⟩:=h;exact(b i).smq d1 a
theorem Cd.ln(h:Cd M p):Ln M p:=by
 obtain⟨D,d1,b,a⟩:=h;exact a.ln d1
theorem Cd.sqs(h:Cd M p)(a:M<=1000000):DY p:=DY.of λi=>Sq.of (h.smq i) a
theorem Cd.pos(h:Cd M p):1<=M:=by
 obtain⟨D,d1,a,_⟩:=h;by_cases b:1<=M
 . exact b
 . exfalso
   obtain rfl:M=0:=Z
   unfold Sm at a;have:D.natAbs≠0:=Int.natAbs_ne_zero.2 d1;simp at a;omega
theorem Cd.mon(h:Cd M p)(tp:Jd p=p):Cd M (Jq p):=KC tp h.ln h.pos
theorem Cd.monS(h:Cd M p)(tp:Jd p=p)(b:M<=1000000)(i:Nat):Sq (cf p i/cf p (p.length-1)):=by
 have a:=Ln.sqs tp h.ln h.pos i;unfold Jq at a;rw[Yi,Ft,FL,<-Ft]at a;exact Sq.of a b
theorem Cd.dvn(h:Cd M p)(f:Cd M q)(g:cf q (q.length-1)=1):∃D E:Int,Dvn D E E M M p q:=by
 obtain⟨D,d1,c,d⟩:=h;obtain⟨E,a,b,e⟩:=f;exact⟨D,E,d1,c,d,a,b,e,a,b,by rw[g,Rat.divInt_self' a]⟩
theorem Cd.quo(h:Cd M p)(e:Cd M q)(b:cf q (q.length-1)=1):Cd ((p.length+1)*(M+1)) (Jt p q)/\Cd ((p.length+1)*(M+1)) (J5 p q):=by
 obtain⟨D,E,d⟩:=h.dvn e b;obtain⟨m,b⟩:=ex (p.length-(q.length-1));have a:=d.den m;have c:=d.rem b;have f:m*(M+1)<=p.length*(M+1):=Am _ Z;have g:(p.length+1)*(M+1)=p.length*(M+1)+(M+1):=by rw[AD,Ct]
 exact⟨⟨_,a.1,a.2.mono Z,λi=>(c.2 i).mono Z⟩,⟨_,a.1,a.2.mono Z,λi=>(c.1 i).mono Z⟩⟩
end
variable{q:List Rat}
theorem KH(tq:Jd q=q)(q0:q≠[])(a:Jq q=q):cf q (q.length-1)=1:=by
 have:=LK tq q0;rwa[a]at this
def Df(p q:List Rat):List Rat:=if q=[]then []else Jt p q
theorem bD(p q:List Rat):Jd (Df p q)=Df p q:=by
 unfold Df;split
 . rfl
 . exact J9 _ _
theorem Cd.ov{M:Nat}{p:List Rat}(h:Cd M p)(b:Cd M q)(tq:Jd q=q)(c:Jq q=q):Cd ((p.length+1)*(M+1)) (Df p q):=by
 unfold Df;split
 . refine(show Cd 1 []from NE Z).mono ?_;have:1*1<=(p.length+1)*(M+1):=Cz Z Z;omega
 . rename_i a;exact(h.quo b (KH tq a c)).1
def Hu(p:List Rat):List Rat:=Jq (Df p (Jn p (Je p)))
namespace M3
variable{p q:List Rat}{K:Nat}
theorem Chn.ends(d:ChOk K p q):∀(n:Nat) (a b:List Rat),b.length<=n->Chn p q (Dm K p q) a b->∃r,Chn p q (Dm K p q) r []:=by
 intro n;induction n with
 |zero=>
  intro a b hl h;have c:b=[]:=LE Z;subst c;exact⟨a,h⟩
 |succ n e=>
  intro a b hl h;by_cases c:b=[]
  . subst c;exact⟨a,h⟩
  . have f:=LN (a:=a) h.tb c;exact e b (ER a b) Z (Chn.next d.tp d.tq d.lp d.lq d.bd.2.2.1 h c)
theorem ChOk.gcd(a:ChOk K p q):Cd (Dm K p q) (Jn p q):=by
 obtain⟨r,b⟩:=Chn.ends a _ _ _ (Aa _) (Chn.start a.tp a.tq a.lp a.lq a.bd.2.2.1);rw[<-b.gc,QG];exact KC b.ta b.wa.ln a.bd.2.2.2
theorem QZ(M:Nat)(v:N)(p:List Rat)(w:F)(h:Jc w v p)(tp:Jd p=p)(b:Cd M p)(a:M<=1000000):
 Calls G 26 #[v] w λe c=>∃u,e=.returned u/\Jc c u (Jq p)/\Bl w c:=
 QV v p w h (b.sqs a) tp λi=>b.monS tp a i
theorem bE(M:Nat)(a b:N)(p q:List Rat)(w:F)(d:Jc w a p)(f:Jc w b q)(hp:Cd M p)(hq:Cd M q)(tp:Jd p=p)(tq:Jd q=q)(j:Jq q=q)(n:2*((p.length+3)*(M+1))<=1000000):
 Calls G 22 #[a,b] w λe c=>∃u v,e=.returned (.tuple #[u,v,.bool (decide (q≠[]))])/\Jc c u (if q=[]then []else Jt p q)/\Jc c v (if q=[]then []else J5 p q)/\Bl w c:=by
 have k:(p.length+3)*(M+1)=p.length*(M+1)+3*(M+1):=AD _ _ _;refine P8 M a b p q w d f (hp.sqs Z) hq.smq tp tq λq0=>?_;obtain⟨D,E,g⟩:=hp.dvn hq (KH tq q0 j);obtain⟨m,i⟩:=ex (p.length-(q.length-1));have l:m*(M+1)<=p.length*(M+1):=Am _ Z;rw[i];exact g.sizes Z
attribute [local go_sem] Oper.semAt_some
theorem KI(M:Nat)(U V:N)(p q:List Rat)(w:F)(t:Jc w U p)(y:Jc w V q)(hp:Cd M p)(hq:Cd M q)(tp:Jd p=p)(tq:Jd q=q)(T:Jq q=q)(K:2*((p.length+3)*(M+1))<=1000000):
 Calls G 46 #[U,V] w λe W=>∃u,e=.returned u/\Jc W u (Df p q)/\Bl w W:=by
 obtain⟨j,la,k,rfl⟩:=t.form;obtain⟨l,lb,m,rfl⟩:=y.form;have r:=(((Mem.nil w).push (.cell 25 (C j la k)) (cs:=#[C j la k]) ⟨rfl,rfl⟩).push (.cell 25 (C l lb m)) (cs:=#[C l lb m]) ⟨rfl,rfl⟩).push (.cell 25 (C none 0 0)) (cs:=#[C none 0 0]) ⟨rfl,rfl⟩;simp only[BA]at r;obtain⟨W0,s⟩:=ex (((w.alloc (E #[C j la k] 25)).alloc (E #[C l lb m] 25)).alloc (E #[C none 0 0] 25));have B:=O s;have a:Hid (Mem w W0 [some (w.heap.size,.cell 25 (C j la k)),some (w.heap.size+1,.cell 25 (C l lb m)),some (w.heap.size+1+1,.cell 25 (C none 0 0))]):=O (by rw[<-s];exact r);have o:=O (bE M _ _ p q W0 (t.below a.o.2.2) (y.below a.o.2.2) hp hq tp tq T K);obtain⟨bq,P⟩:=ex (decide (q≠[]));rw[P,show(if q=[]then []else Jt p q)=Df p q from rfl]at o;have c0:=(a.o.cell (i:=0) rfl).1.cell;have c1:=(a.o.cell (i:=1) rfl).1.cell;have n1:=(a.o.cell (i:=2) rfl).1;have A:=O a.o.2.2;clear r s t y hp hq tp tq T K P a;go_enter Tryz.func46,Tryz.ntmps46
 go_upto_region 1 with fail
 rw[B.o];clear B;go_upto_region 2 with(go_at_call 22;refine o.o.mono ?_;clear o;rintro e n ⟨u4,v4,rfl,z,Q,f⟩;obtain⟨b,c,c4,rfl⟩:=z.form;obtain⟨H,S,I,rfl⟩:=Q.form)
 have d:Bl n ((n.alloc (E #[C b c c4] 25)).alloc (E #[C H S I] 25)):=(Ba n _).alloc (by rw[BA];omega) _;have nb:=(BM n 25 (C b c c4)).alloc (E #[C H S I] 25);have e5:=nb.cell;have g:=boxed_below (boxed_below n1 f) d;have x0:=g.cell;have x1:=g.frozen;have Qe:=O (KD g (x:=C b c c4) (z.below d));have X:=O (((Bt A.o f).trans (d.mono (Aw A.o.size f.size))).setCell (p:=⟨w.heap.size+1+1,0,none⟩) (by show w.heap.size<=w.heap.size+1+1;omega) (C b c c4));clear c0 c1 z Q f nb g d;go_wp2_with fail
 exact BB (v:=R #[C b c c4]) (by simp[results,Tryz.results46,go_sem,x0]) rfl ⟨_,rfl,Qe.o,X.o⟩
structure FrOk(K:Nat)(p:List Rat):Prop where
 ch:ChOk K p (Je p)
 le:(p.length+3)*(Dm K p (Je p)+1)*2<=1000000
theorem FrOk.cd(h:FrOk K p):Cd (Dm K p (Je p)) p:=(show Cd K p from h.ch.cp).mono (by have:=KB K p (Je p);omega)
theorem FrOk.sl(h:FrOk K p)(i:Nat):Sq (Gs p i):=by
 have b:=(show Cd K (Je p)from h.ch.cq).sqs h.ch.bd.2.1;have a:=b.at i;unfold Je at a;rwa[Yd,Hz]at a
theorem bF(K:Nat)(v:N)(p:List Rat)(w:F)(h:Jc w v p)(m:FrOk K p):
 Calls G 16 #[v] w λe w'=>∃u,e=.returned u/\Jc w' u (Hu p)/\Bl w w':=by
 have Qi:Tryz.prog.follows .mixedOrders=true:=by kernel_rfl
 obtain⟨j,la,k,rfl⟩:=h.form;have M0:=((Mem.nil w).push (.cell 25 (C j la k)) (cs:=#[C j la k]) ⟨rfl,rfl⟩).push (.poly []) (cs:=#[C none 0 0]) (FW _);simp only[BA]at M0;obtain⟨W0,ae⟩:=ex ((w.alloc (E #[C j la k] 25)).alloc (E #[C none 0 0] 25));have Qc:=O ae;have h9:=m.le;have h8:=m.ch.bd;have h7:(p.length+3)*(Dm K p (Je p)+1)=(p.length+1)*(Dm K p (Je p)+1)+2*(Dm K p (Je p)+1):=by rw[<-AD]
 have Qa:=m.ch.gcd;have Qb:=YO m.ch.tp m.ch.tq;obtain⟨Qe,Qj,Qf,Qd⟩:=ED (λ(V:F) (P:Bl w V)=>LB (R #[C j la k]) p V (h.below P) (m.cd.sqs h8.1) m.sl) (λ(V:F) (P:Bl w V) (y:N) (S:Jc V y (Je p))=>Gu K (R #[C j la k]) y p (Je p) V (h.below P) S m.ch) (λ(V:F) (P:Bl w V) (y:N) (S:Jc V y (Jn p (Je p)))=>KI (Dm K p (Je p)) (R #[C j la k]) y p (Jn p (Je p)) V (h.below P) S m.cd Qa m.ch.tp (JK _ _) Qb Z) λ(V:F) (y:N) (S:Jc V y (Df p (Jn p (Je p))))=>QZ ((p.length+1)*(Dm K p (Je p)+1)) y (Df p (Jn p (Je p))) V S (bD _ _) (m.cd.ov Qa (JK _ _) Qb) Z;rw[show Jq (Df p (Jn p (Je p)))=Hu p from rfl]at Qd;have M1:Hid (Mem w W0 [some (w.heap.size,.cell 25 (C j la k)),some (w.heap.size+1,.poly ([]))]):=O (by rw[<-ae];exact M0);clear M0 ae h m h9 h8 h7 Qa Qb;go_enter Tryz.func16,Tryz.ntmps16
 go_upto_region 1 with fail
 rw[Qc.o];clear Qc;refine Jm Qi [[],[],[],[2],[1,3,3],[0,4,4],[5,5],[6,6,0,1,2,3,4,5,6]] (by kernel_rfl) DL
  (λD ad V=>∃(ta tb U W X tf tg:N) (T:Option (Nat × Dat)),ad={ tmps:=#[R #[C j la k],L (some ⟨w.heap.size,0,none⟩),L (some ⟨w.heap.size+1,0,none⟩),ta,tb,U,W,X,tf,tg],defers:=[] }/\Hid ((D 0=true->ta=R #[C j la k])/\(D 1=true->tb=R #[C j la k])/\(D 2=true->U=R #[C j la k])/\(D 3=true->Has V W (.poly (Je p)))/\(D 4=true->Has V X (.poly (Jn p (Je p))))/\(D 5=true->Has V tf (.poly (Df p (Jn p (Je p)))))/\(D 6=true->Has V tg (.poly (Hu p)))/\((D 7=false->T=some (w.heap.size+1,.poly ([])))/\(D 7=true->T=some (w.heap.size+1,.poly (Hu p)))))/\Hid (Mem w V [some (w.heap.size,.cell 25 (C j la k)),T]))
  ⟨_,_,_,_,_,_,_,_,rfl,O ⟨J,J,J,J,J,J,J,⟨λ_=>rfl,J⟩⟩,O (M1.o).drew⟩ ?step1 ?fin1
 case step1=>
  rintro D ad V i ds ah hi g af ⟨ta,tb,U,W,X,tf,tg,T,rfl,b,f⟩;have ai:i<8:=(Af.1 hi).1;obtain rfl|rfl|rfl|rfl|rfl|rfl|rfl|rfl:=KP i Z
  all_goals
   simp only[Ai,Ah,Ak]at hi;subst hi
  . have e0:=(f.o.cell (i:=0) rfl).1.cell;clear g;refine Zt ?_;exact⟨_,_,_,_,_,_,_,_,rfl,(Dc b),O (f.o)⟩
  . have e0:=(f.o.cell (i:=0) rfl).1.cell;clear g;refine Zt ?_;exact⟨_,_,_,_,_,_,_,_,rfl,(Dg b),O (f.o)⟩
  . have e0:=(f.o.cell (i:=0) rfl).1.cell;clear g;refine Zt ?_;exact⟨_,_,_,_,_,_,_,_,rfl,(Db b),O (f.o)⟩
  . obtain rfl:=(b.o.2.2.1 (g 2 J));have H:=O (Qe.o V f.o.2.2);clear g;refine Jb rfl rfl λK hK=>?_;go_simp;go_wp2_with(go_at_call 24;refine H.o.mono ?_;rintro e w5 ⟨v5,rfl,I,d⟩)
    obtain⟨o,q,_,_,x,z,A,B⟩:=b.o;exact⟨_,_,_,_,_,_,_,_,rfl,O ⟨o,q,λ_=>rfl,λ_=>I,λh=>(x h).below d,λh=>(z h).below d,λh=>(A h).below d,B⟩,O (f.o.below d)⟩
  . obtain rfl:=(b.o.2.1 (g 1 J));have M:=(b.o.2.2.2.1 (g 3 J));have H:=O (Qj.o V f.o.2.2 _ M);clear g M;refine Jb rfl rfl λK hK=>?_;go_simp;go_wp2_with(go_at_call 8;refine H.o.mono ?_;rintro e w5 ⟨v5,rfl,I,d⟩)
    obtain⟨o,_,s,t,_,z,A,B⟩:=b.o;exact⟨_,_,_,_,_,_,_,_,rfl,O ⟨o,λ_=>rfl,s,λh=>(t h).below d,λ_=>I,λh=>(z h).below d,λh=>(A h).below d,B⟩,O (f.o.below d)⟩
  . obtain rfl:=(b.o.1 (g 0 J));have M:=(b.o.2.2.2.2.1 (g 4 J));have H:=O (Qf.o V f.o.2.2 _ M);clear g M;refine Jb rfl rfl λK hK=>?_;go_simp;go_wp2_with(go_at_call 46;refine H.o.mono ?_;rintro e w5 ⟨v5,rfl,I,d⟩)
    obtain⟨_,q,s,t,x,_,A,B⟩:=b.o;exact⟨_,_,_,_,_,_,_,_,rfl,O ⟨λ_=>rfl,q,s,λh=>(t h).below d,λh=>(x h).below d,λ_=>I,λh=>(A h).below d,B⟩,O (f.o.below d)⟩
  . have h0:=((Dq b) (g 5 J));have H:=O (Qd.o V _ h0);clear g h0;refine Jb rfl rfl λK hK=>?_;go_simp;go_wp2_with(go_at_call 26;refine H.o.mono ?_;rintro e w5 ⟨v5,rfl,I,d⟩)
    obtain⟨o,q,s,t,x,z,_,B⟩:=b.o;exact⟨_,_,_,_,_,_,_,_,rfl,O ⟨o,q,s,λh=>(t h).below d,λh=>(x h).below d,λh=>(z h).below d,λ_=>I,B⟩,O (f.o.below d)⟩
  . obtain rfl:=EE b af;have hv:=((D0 b) (g 6 J));obtain⟨a1,l1,c1,rfl⟩:=Jc.form (show Jc V _ _ from hv);obtain⟨a,l,c,n,r⟩:=f.o.poly2 (i:=1) rfl;have e0:=n.cell;have f0:=n.frozen;clear g;refine Zt ?_;obtain⟨o,q,s,t,x,z,A,_⟩:=b.o;exact⟨_,_,_,_,_,_,_,_,rfl,O ⟨o,q,s,λh=>(t h).set1 n rfl _,λh=>(x h).set1 n rfl _,λh=>(z h).set1 n rfl _,λh=>(A h).set1 n rfl _,⟨λh=>by simp at h,λ_=>rfl⟩⟩,O (f.o.putPoly (i:=1) rfl hv)⟩
 rintro D ad V2 Q ⟨ta,tb,U,W,X,tf,tg,T,rfl,b,f⟩;obtain rfl:=b.o.2.2.2.2.2.2.2.2 (Q 7 DL);obtain rfl:=b.o.1 (Q 0 DL);obtain rfl:=b.o.2.1 (Q 1 DL);obtain rfl:=b.o.2.2.1 (Q 2 DL);clear b Q M1;have M2:Hid (Mem w V2 [some (w.heap.size,.cell 25 (C j la k)),some (w.heap.size+1,.poly (Hu p))]):=f;clear f;obtain⟨a3,l3,c3,n3,r3⟩:=M2.o.poly2 (i:=1) rfl;have Qh:=n3.cell;have Qg:=O M2.o.2.2;go_wp2_with fail
 exact BB (v:=R #[C a3 l3 c3]) (by simp[results,Tryz.results16,go_sem,Qh]) rfl ⟨_,rfl,r3,Qg.o⟩
end M3
end
open Go.RowKit Go.Shelf
variable{r:Bool}{p:List Rat}{cs:List N}{B base c l t:Nat}{a:Option Addr}{v:N}{W W':F}
theorem Tryz.infoPart:(Tryz.prog.info? 44).map (λi=>(i.zero,i.size,i.bytes))=some (some (R #[C none 0 0,D .i64 0]),2,32):=by kernel_rfl
theorem Tryz.infoRPart:(Tryz.prog.info? 46).map (λi=>(i.zero,i.size,i.bytes))=some (some (R #[C none 0 0,D .i64 0]),2,32):=by kernel_rfl
def D5(r:Bool):TypeId:=match r with|true=>44|false=>46
def GE(r:Bool):TypeId:=match r with|true=>39|false=>41
def zP:Array N:=#[C none 0 0,.int .i64 0]
theorem bG(r:Bool):Tryz.prog.underlying (GE r)=some (.slice (D5 r)):=by
 cases r with
 |true=>exact Tryz.underlying39
 |false=>exact Tryz.underlying41
theorem bH(r:Bool):∃i,Tryz.prog.info? (D5 r)=some i/\i.zero=some (R zP)/\i.size=2/\i.bytes=32:=by
 cases r with
 |true=>
  obtain⟨i,a,b,c,d⟩:=DI Tryz.infoPart;exact⟨i,a,b,c,d⟩
 |false=>
  obtain⟨i,a,b,c,d⟩:=DI Tryz.infoRPart;exact⟨i,a,b,c,d⟩
def GK(r:Bool)(W W':F):Prop:=∀B,B<W.heap.size->(∀cs m,W.heap[B]?≠some (E cs (D5 r) m))->W'.heap[B]?=W.heap[B]?
theorem GK.at(h:GK r W W'){cs:Array N}{t:TypeId}{m:Nat × Nat}(a:W.heap[B]?=some (E cs t m))(b:t≠D5 r):W'.heap[B]?=W.heap[B]?:=
 h B (Ae.1 a).1 λc d e=>by
  rw[a]at e;simp only[Ak,Bn]at e;exact b e.2.1
theorem bI(k:IntKind)(r:Bool):N0 k≠D5 r:=by cases r<;>cases k<;>decide
theorem bJ(k:Bool)(r:Bool):Iy k≠D5 r:=by cases r<;>cases k<;>decide
theorem GK.row(h:GK r W W'){k:IntKind}{ds:List Nat}(t:Row k W v ds):Row k W' v ds:=by
 obtain⟨a,c,e,l,n,o,d⟩:=t;refine⟨a,c,e,l,n,o,?_⟩;rcases d with d|⟨b,off,i,g,q⟩
 . exact Or.inl d
 . obtain⟨cs,m,p⟩:=id g;have f:=h.at p (bI k r);refine Or.inr ⟨b,off,i,g.of f,λj s=>?_⟩;rw[<-q j s];simp only[World.cell?,f]
theorem GK.rowK(h:GK r W W'){k:Bool}{qs:List Rat}(A:RowK k W v qs):RowK k W' v qs:=by
 obtain⟨a,cap,e,o,p,q,c⟩:=A;refine⟨a,cap,e,o,p,q,?_⟩;rcases c with c|⟨b,n,cs,d,t⟩
 . exact Or.inl c
 . refine Or.inr ⟨b,n,cs,(h.at d (bJ k r)).trans d,λj w=>?_⟩;obtain⟨x,y,z,u,f,i,l,m,s⟩:=t j w;exact⟨x,y,z,u,f,i,l,m,s.keep λ_ _ _ g=>h.row g⟩
def FX(r:Bool)(W:F)(cs:List N)(L:List (List Rat × Nat)):Prop:=
 cs.length=L.length*2/\∀j p t,L[j]?=some (p,t)->∃x,cs[j*2]?=some x/\cs[j*2+1]?=some (.int .i64 (t:Int))/\RowK r W x p
theorem FX.keep{L:List (List Rat × Nat)}(h:FX r W cs L)(d:∀v qs,RowK r W v qs->RowK r W' v qs):FX r W' cs L:=by
 refine⟨h.1,λj p t e=>?_⟩;obtain⟨x,a,b,c⟩:=h.2 j p t e;exact⟨x,a,b,d _ _ c⟩
theorem FX.below{r:Bool}{W W':F}{cs:List N}{L:List (List Rat × Nat)}(h:FX r W cs L)(a:Bl W W'):FX r W' cs L:=h.keep λ_ _ g=>g.below a
theorem FX.snoc{L:List (List Rat × Nat)}(h:FX r W cs L){x:N}(k:RowK r W x p):FX r W (cs++[x,D .i64 (t:Int)]) (L++[(p,t)]):=by
 refine⟨by simp[h.1];omega,λj l m e=>?_⟩;by_cases i:j<L.length
 . rw[A5 i]at e;obtain⟨y,b,c,f⟩:=h.2 j l m e;exact⟨y,by rw[A5 (by have:=h.1;omega)];exact b,by rw[A5 (by have:=h.1;omega)];exact c,f⟩
 . rw[AW Z]at e;obtain⟨d,g⟩:=ex (j-L.length);rw[g]at e;cases d with
   |succ d=>simp at e
   |zero=>
    simp at e;obtain⟨rfl,rfl⟩:=e;have a:j=L.length:=Z
    subst a;refine⟨x,?_,?_,k⟩
    . rw[AW (by have:=h.1;omega),h.1,A7];rfl
    . rw[AW (by have:=h.1;omega),h.1,show L.length*2+1-L.length*2=1 by omega];rfl
def Y5(r:Bool)(base:Nat)(W:F)(v:N)(L:List (List Rat × Nat)):Prop:=
 (v=C none 0 0/\L=[])\/∃g cap a,v=C (some ⟨g,0,none⟩) L.length cap/\base<=g/\W.heap[g]?=some (E a (D5 r) (0,0))/\L.length<=cap/\cap<=maxLen/\a.size=cap*2/\FX r W (a.toList.take (L.length*2)) L
theorem Y5.nil(r:Bool)(base:Nat)(W:F):Y5 r base W (C none 0 0) []:=Or.inl ⟨rfl,rfl⟩
theorem Y5.below{r:Bool}{base:Nat}{W W':F}{v:N}{L:List (List Rat × Nat)}(h:Y5 r base W v L)(b:Bl W W'):Y5 r base W' v L:=by
 rcases h with h|⟨g,cap,c,d,e,a,f,i,j,k⟩
 . exact Or.inl h
 . exact Or.inr ⟨g,cap,c,d,e,(b.block g (Ae.1 a).1).trans a,f,i,j,k.below b⟩
theorem Y5.form{L:List (List Rat × Nat)}(h:Y5 r base W v L):∃a c,v=C a L.length c/\L.length<=c/\c<=maxLen:=by
 rcases h with⟨rfl,rfl⟩|⟨g,cap,e,rfl,_,_,b,d,_⟩
 . exact⟨none,0,rfl,J,by unfold maxLen;omega⟩
 . exact⟨_,cap,rfl,b,d⟩
theorem Y5.set{L:List (List Rat × Nat)}(h:Y5 r base W v L)(b:Boxed W B 25 (C a l c)){u:N}(s:∀v qs,RowK r W v qs->RowK r (W.setCell ⟨B,0,none⟩ u) v qs):Y5 r base (W.setCell ⟨B,0,none⟩ u) v L:=by
 rcases h with h|⟨g,cap,i,j,k,d,m,n,o,p⟩
 . exact Or.inl h
 . have f:g≠B:=λe=>by
    subst e;have q:W.heap[g]?=some (E #[C a l c] 25 (0,0)):=b;rw[q]at d;simp only[Ak,Bn]at d;have:=d.2.1;revert this;cases r<;>decide
   exact Or.inr ⟨g,cap,i,j,k,(BC W ⟨B,0,none⟩ u g f).trans d,m,n,o,p.keep s⟩
theorem bK(r:Bool)(base:Nat)(W:F)(v:N)(L:List (List Rat × Nat))(h:Y5 r base W v L)(hx:RowK r W (C a l c) p)(hl:L.length+1<=1099511627776)(T:base<=W.heap.size):
 ∃v' z,(Builtin.append_ #[GE r,GE r] (GE r) #[v,C (some ⟨W.heap.size,0,none⟩) 1 1]).run G (W.alloc (E #[C a l c,D .i64 (t:Int)] (D5 r)))=.ok v' z/\Y5 r base z v' (L++[(p,t)])/\GK r W z/\(∀n w0,n<=base->Below n w0 W->Below n w0 z)/\W.heap.size<=z.heap.size:=by
 obtain⟨i,V,hz,y,ae⟩:=bH r;have X:=bG r;have k:Bl W (W.alloc (E #[C a l c,D .i64 (t:Int)] (D5 r))):=Ba W _;obtain⟨b,ad⟩:=ex (W.alloc (E #[C a l c,D .i64 (t:Int)] (D5 r)));have Qf:b.heap[W.heap.size]?=some (E #[C a l c,D .i64 (t:Int)] (D5 r) (0,0)):=by rw[<-ad];exact BD W _
 rw[ad]at k ⊢;have Ql:=hx.below k;have I:∀j c',[Value.slice a l c,D .i64 (t:Int)][j]?=some c'->b.cell? ((⟨W.heap.size,0,none⟩:Addr).add j)=some c':=λj c' f=>by
  rw[XG,A9];exact cell_of Qf (by simpa using f)
 have Qh:∀c'∈[Value.slice a l c,D .i64 (t:Int)],c'.oneCell'=true:=λc' f=>by
  simp at f;rcases f with rfl|rfl<;>rfl
 have Qk:(Value.agg zP).cells=zP:=rfl;have Qp:zP.size=2:=rfl;have grown:∀(cs:List N) (w:Nat) (m:Nat),m=L.length+1->FX r b (cs++[C a l c,D .i64 (t:Int)]) (L++[(p,t)])->cs.length=L.length*2->
  Y5 r base (b.drew.alloc (E (cs.toArray++[Value.slice a l c,D .i64 (t:Int)].toArray++Builtin.zeroCells zP (grownCap b m w (D5 r)-m)) (D5 r))) (C (some ⟨b.heap.size,0,none⟩) m (grownCap b m w (D5 r))) (L++[(p,t)]):=by
  intro cs w m hm f x;subst hm;have Qm:=grownCap_ge b (L.length+1) w (D5 r);have Qq:=grownCap_le_maxLen b (L.length+1) w (D5 r) (by unfold maxLen;omega);have Qr:Bl b (b.drew.alloc (E (cs.toArray++[Value.slice a l c,D .i64 (t:Int)].toArray++Builtin.zeroCells zP (grownCap b (L.length+1) w (D5 r)-(L.length+1))) (D5 r))):=((BE _ b).drew).alloc (Aa _) _;refine Or.inr ⟨b.heap.size,_,_,by rw[Aq];rfl,Aw T k.size,BD b.drew _,by rw[Aq];exact Qm,Qq,?_,?_⟩
  . simp only[Array.size_append,Ar,size_zeroCells,Qp,x,Ao,AF];omega
  . have e:(cs.toArray++[Value.slice a l c,D .i64 (t:Int)].toArray++Builtin.zeroCells zP (grownCap b (L.length+1) w (D5 r)-(L.length+1))).toList.take ((L++[(p,t)]).length*2)=cs++[C a l c,D .i64 (t:Int)]:=by
     simp only[Array.toList_append];have K:(L++[(p,t)]).length*2=(cs++[Value.slice a l c,D .i64 (t:Int)]).length:=by simp;omega
     rw[K];exact List.take_left
    rw[e];exact f.below Qr
 have fin:∀o,GK r W (b.drew.alloc o)/\(∀n w0,n<=base->Below n w0 W->Below n w0 (b.drew.alloc o))/\W.heap.size<=(b.drew.alloc o).heap.size:=λo=>by
  have M:Bl W (b.drew.alloc o):=(k.drew).alloc (by exact k.size) _;exact⟨λB H _=>M.block B H,λn w0 u S=>S.trans (M.mono (Aw u T)),M.size⟩
 rcases h with⟨rfl,rfl⟩|⟨g,cap,d,rfl,h2,Q,h4,h5,h6,h7⟩
 . have s:=run_append_nil (P:=G) b (GE r) (GE r) (D5 r) i _ X V hz ⟨W.heap.size,0,none⟩ 1 1 [C a l c,D .i64 (t:Int)] (by rw[y];rfl) I Z Z (by rw[ae];omega);rw[Qk]at s;refine⟨_,_,s,?_,fin _⟩;have:=grown [] 0 1 rfl (by rw[At];exact FX.snoc (cs:=[]) (L:=[]) ⟨rfl,λj p t e=>by simp at e⟩ Ql) rfl;simpa using this
 . have A:b.heap[g]?=some (E d (D5 r) (0,0)):=(k.block g (Ae.1 Q).1).trans Q;have x:(d.toList.take (L.length*2)).length=L.length*2:=by rw[Ap];have h0:d.toList.length=d.size:=Array.length_toList;omega
   have Qj:=(h7.below k).snoc (t:=t) Ql;by_cases af:L.length+1<=cap
   . have s:=run_append_room (P:=G) b (GE r) (GE r) (D5 r) i X V g L.length cap d A ⟨W.heap.size,0,none⟩ 1 1 [C a l c,D .i64 (t:Int)] (by rw[y];rfl) I Qh af (by rw[y];simp;omega);rw[y]at s;obtain⟨q,U⟩:=ex ((d.toList.take (L.length*2)++[Value.slice a l c,D .i64 (t:Int)]++d.toList.drop (L.length*2+[Value.slice a l c,D .i64 (t:Int)].length)).toArray);rw[U]at s;have Qo:=setRow_heap b g d q (D5 r) (0,0) A;have Qd:GK r b (b.setRow g q):=λB H u=>setRow_other b g B q λe=>u d (0,0) (by rw[e];exact A);have Qg:b.heap.size<=(b.setRow g q).heap.size:=(below_setRow (B:=0) (BE _ b) (AK _) q).size;refine⟨_,_,s,?_,λB H u=>?_,λn w0 u S=>below_setRow (S.trans (k.mono (Aw u T))) (Aw u h2) q,Aw k.size Qg⟩
     . refine Or.inr ⟨g,cap,q,by rw[Aq];rfl,h2,Qo,by rw[Aq];exact af,h5,?_,?_⟩
       . rw[<-U];simp only[Ar,Aq,AV,x,Ao,AF];have h0:d.toList.length=d.size:=Array.length_toList;omega
       . have e:q.toList.take ((L++[(p,t)]).length*2)=d.toList.take (L.length*2)++[C a l c,D .i64 (t:Int)]:=by
          rw[<-U];have K:(L++[(p,t)]).length*2=(d.toList.take (L.length*2)++[Value.slice a l c,D .i64 (t:Int)]).length:=by simp[x];omega
          rw[K];exact List.take_left
         rw[e];exact Qj.keep λ_ _ g=>Qd.rowK g
     . have Qn:B≠g:=λe=>u d (0,0) (by rw[e];exact Q);exact(setRow_other b g B q Qn).trans (k.block B H)
   . have ah:∀j c',(d.toList.take (L.length*2))[j]?=some c'->b.cell? ((⟨g,0,none⟩:Addr).add j)=some c':=λj c' f=>by
      rw[XG,A9];rw[Fu]at f;split at f
      . rw[Cu]at f;exact cell_of A f
      . cases f
     have s:=run_append_grow (P:=G) b (GE r) (GE r) (D5 r) i _ X V hz ⟨g,0,none⟩ L.length cap (d.toList.take (L.length*2)) (by rw[y];exact x) ah ⟨W.heap.size,0,none⟩ 1 1 [C a l c,D .i64 (t:Int)] (by rw[y];rfl) I Z Z (by rw[ae];exact growslice_fits Z Z);rw[Qk]at s;exact⟨_,_,s,grown _ cap _ rfl Qj x,fin _⟩
namespace M3
theorem Mem.farP{w W W':F}{bs:List (Option (Nat × Dat))}{r:Bool}(M:Mem w W bs)(a:GK r W W')(e:Bl w W')(f:∀(i:Nat) B d,bs[i]?=some (some (B,d))->d.ty≠D5 r):Mem w W' bs:=by
 refine⟨λi B d h=>?_,M.2.1,e⟩;obtain⟨⟨cs,b,c⟩,j⟩:=M.1 i B d h;exact⟨⟨cs,(a.at b (f i B d h)).trans b,c.keep (λ_ _ _ g=>a.row g) (Or.inr λ_ _ g=>a.rowK g)⟩,j⟩
end M3

