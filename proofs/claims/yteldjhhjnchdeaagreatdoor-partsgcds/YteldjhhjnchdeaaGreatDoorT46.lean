import Derived.Test.YteldjhhjnchdeaaGreatDoorT45
open Go.Value renaming slice->C,pointer->L,agg->N,int->H
open Go renaming World->F,Value->J
open Go.Proofs.Tryz renaming prog->G
open Go.Obj renaming cells->E
set_option maxRecDepth 100000
set_option maxHeartbeats 16000000
namespace Go.Proofs.YteldjhhjnchdeaaGreatDoor.M3
open Go.RowKit Go.Shelf
attribute [local go_sem] Oper.semAt_some
variable{a p ps q:List Rat}{B K j l:Nat}{f:Option Addr}{v:J}{W w:F}
theorem eS(n:Nat)(d b:Option Addr)(c a f g:Nat)(w:F):
 CallsIn Fence.wide n G 25 #[N #[C d c a],N #[C b f g]] w λe i=>e=.returned (.func (.func 55) #[] #[L (some ⟨w.heap.size,0,none⟩),L (some ⟨w.heap.size+1,0,none⟩)])/\i=(w.alloc (E #[C d c a] 25)).alloc (E #[C b f g] 25):=by
 refine B0 Tryz.func25 rfl trivial ?_ rfl;simp only[Tryz.ntmps25,An,Am,AD,Nat.reduceAdd,Nat.reduceSub,AF,AG,AZ,AN,Ao,Az];gi_wp2;go_ret;exact⟨rfl,rfl⟩
def Sv(B:Nat)(I:List (List Rat)->F->Prop)(H:List (List Rat))(W:F):Exit->Act->F->Prop
 |.normal,_,W'=>I H W'/\W.heap.size<=W'.heap.size/\(∀(k:Nat) (o:Obj),B<=k->W.heap[k]?=some o->W'.heap[k]?=some o)/\∀v ps,Jg W v ps->Jg W' v ps
 |_,_,_=>False
theorem Sw{W':F}{row:Option Nat}(b:W.grownBy W' row)(a:∀r,row=some r->∃o:Obj,W.heap[r]?=some o/\o.isCells=false)(h:Jg W v ps):Jg W' v ps:=by
 obtain⟨u,e,h⟩:=h;exact⟨u,e,Ir b a h⟩
theorem Mn{o a:Obj}(hl:W.heap[l]?=some o)(b:o.isCells=false)(h:Jg W v ps):Jg (W.putObj l a) v ps:=
 Sw (BV W l a) (λr e=>by cases e;exact⟨o,hl,b⟩) h
theorem eT{g:Operand}{ps:Array Tmp}{assign body:Code}{Q:Exit->Act->F->Prop}{a:Act}{n:Nat}
(h1:2<=n){X:Nat}{qa:Option Addr}{pl pc ql qc:Nat}(aw:ChOk K p q)(bc:Dt w j f pl pc)(am:Dt w X qa ql qc)(ip:Jg w (N #[C f pl pc]) p)(iq:Jg w (N #[C qa ql qc]) q)
(hg:a.eval g=.func (.func 55) #[] #[L (some ⟨j,0,none⟩),L (some ⟨X,0,none⟩)])(eg:∀args w,(callFunc 55 args).run G w=.ok (.enter 55 args) w)(az:ps.size=1)
(I:List (List Rat)->F->Prop)(Y:OwnFrom w.heap.size I)(ai:GB I)(ay:GS w.heap.size I)(h0:I [] w)(a₁:J->Nat->Act)
(bh:∀(l:Nat) (x:Option Addr) (o s:Nat) (W:F) (K:Act->F->Prop),K (a₁ (C x o s) W.heap.size) (W.alloc (E #[C x o s] 25))->
  assign.wpIn (Fence.wide.inRound l) (n-1-1) G (Exit.then K (λ_ _ _=>False)) { tmps:=(ps.zip #[N #[C x o s]]).foldl (λt (p,v)=>t.setIfInBounds p v) a.tmps,defers:=[] } W)
(bg:∀(l b:Nat) (x:Option Addr) (o s:Nat) (r:List Rat) (H:List (List Rat)) (W:F),I H W->w.heap.size+1<b->Dt W b x o s->Jg W (N #[C x o s]) r->
  body.wpIn (Fence.wide.inRound l) (n-1-1) G (Sv w.heap.size I (H++[r]) W) (a₁ (C x o s) b) W)
(ap:∀(D:Nat) (W:F) (H:List (List Rat)) (r:List Rat),w.heap.size<=D->I (H++[r]) W->LI p q=H++[r]->Chn p q (Dk K p q) r []->W.heap[D]?=some (.deferred (some []))->Q .normal { a with defers:={ target:=.collected D,args:=#[] }::a.defers } W):
 (Code.rangeFunc g ps assign body).wpIn Fence.wide n G Q a w:=by
 refine wpIn_rangeFunc λfn an=>?_;rw[show Fence.wide.round=none from rfl];obtain⟨rc,z⟩:∃rc:LoopState->Option Code->Loop,rc=λst pe=>{ state:=st,pending:=pe,fn,tmps:=a.tmps,params:=ps,assign,body,defers:=w.heap.size }:=⟨_,rfl⟩;obtain⟨V,O⟩:=ex ((w.alloc (.deferred (some []))).alloc (.loop (rc .ready none)));have vL:V.heap[w.heap.size+1]?=some (.loop (rc .ready none)):=by
  rw[<-O];have:=BE (w.alloc (.deferred (some []))) (.loop (rc .ready none));rwa[A1]at this
 have vD:V.heap[w.heap.size]?=some (.deferred (some [])):=by
  rw[<-O];exact(Bh _ _ _ DQ).trans (BE w _)
 have vI:I [] V:=by rw[<-O];exact Y.alloc _ (Y.alloc _ h0)
 have Qe:Bl w V:=by rw[<-O];exact(Ba w _).alloc (by rw[A1];omega) _
 have bi:V.heap.size=w.heap.size+2:=by rw[<-O];simp
 refine⟨w.heap.size+1,[{ target:=.collected w.heap.size,args:=#[] }],V,{ target:=.fn (.func 55) #[L (some ⟨j,0,none⟩),L (some ⟨X,0,none⟩)],args:=#[.func (.yield (w.heap.size+1)) #[] #[]] },V,55,
  #[.func (.yield (w.heap.size+1)) #[] #[]]++#[L (some ⟨j,0,none⟩),L (some ⟨X,0,none⟩)],V,?_,?_,?_,?_,λ_=>by omega,?_⟩
 . rw[<-O,z];exact run_enterLoop_outer _ _ _ _ _
 . simp only[resolve,hg];simp[go_sem]
 . intro f' ah;simp[Target.leads]at ah;subst ah;exact trivial
 . simp[invoke,go_sem,eg]
 refine(eR K (n-1) om j X f qa pl pc ql qc p q aw (w.heap.size+1) (w.heap.size+2)
  (λH W=>I H W/\W.heap[w.heap.size+1]?=some (.loop (rc .ready none))/\W.heap[w.heap.size]?=some (.deferred (some [])))
  V om (bc.below Qe) (am.below Qe) (ip.below Qe) (iq.below Qe) ?_ ?_ ?_ ⟨vI,vL,vD⟩).mono ?_
 . rintro H W W' ⟨A,hl,d⟩ T;exact⟨ai _ _ _ A T,(T.block _ (Ab.1 hl).1).trans hl,(T.block _ (Ab.1 d).1).trans d⟩
 . rintro H W B x o s u hB T ⟨A,hl,d⟩;exact⟨ay _ _ _ _ _ _ _ om T A,(BD W ⟨B,0,none⟩ u _ (by show w.heap.size+1≠B;omega)).trans hl,(BD W ⟨B,0,none⟩ u _ (by show w.heap.size≠B;omega)).trans d⟩
 . rintro H W B4 B5 i y c4 a5 l5 c5 p4 q5 bm bk ak aj ⟨A,hl,d⟩ h4 h5 i4 i5;have Qf:w.heap.size+1<W.heap.size:=(Ab.1 hl).1;have hy:=run_yield (P:=G) (args:=#[N #[C i y c4]]) hl (by rw[z];exact az.symm);rw[z]at hy;obtain⟨m,ae⟩:=ex (W.alloc (E #[C i y c4] 25));have M:Bl W m:=by rw[<-ae];exact Ba W _
   have U:m.heap[w.heap.size+1]?=some (.loop (rc .ready none)):=(M.block _ Qf).trans hl;have Qm:m.heap[w.heap.size]?=some (.deferred (some [])):=(M.block _ om).trans d;have Qq:I H m:=ai _ _ _ A M;have Qh:Dt m W.heap.size i y c4:=by rw[<-ae];exact BM W 25 (C i y c4)
   refine⟨fn,_,assign,body,hy,roundIn_of_wpIn an (bh _ _ _ _ W _ ?_)⟩;rw[ae];refine⟨_,run_beginRound U (by rw[z]),?_⟩;obtain⟨bx,aq⟩:=ex (W.heap.size);have Qp:=h4.below M;have Qk:=h5.below M;have Qt:=i4.below M;have Qs:=i5.below M;rw[aq]at Qh Qf ak aj ⊢;have Qg:w.heap.size+1<m.heap.size:=(Ab.1 U).1;obtain⟨c,R⟩:=ex (m.putObj (w.heap.size+1) (.loop { rc .ready none with state:=.busy }));rw[R];have Qj:c.heap[w.heap.size+1]?=some (.loop { rc .ready none with state:=.busy }):=by rw[<-R];exact Bk Qg
   have Qd:∀k,k≠w.heap.size+1->c.heap[k]?=m.heap[k]?:=λk d=>by rw[<-R];exact BT om
   have Qn:Dt c bx i y c4:=(Qd bx om).trans Qh;have Qr:c.heap[w.heap.size]?=some (.deferred (some [])):=(Qd _ om).trans Qm;have Ql:I H c:=by rw[<-R];exact Y.putObj _ Qq om U rfl
   have Qo:Dt c B4 i y c4:=(Qd B4 om).trans Qp;have Qu:Dt c B5 a5 l5 c5:=(Qd B5 om).trans Qk;have Qi:Jg c (N #[C i y c4]) p4:=by rw[<-R];exact Mn U rfl Qt
   have Qv:Jg c (N #[C a5 l5 c5]) q5:=by rw[<-R];exact Mn U rfl Qs
   refine wpIn_mono (bg _ bx i y c4 p4 H c Ql Qf Qn Qi) λe a3 Z hp=>?_;cases e with
   |normal=>
    obtain⟨bf,bj,ad,af⟩:=hp;have S:=ad _ _ om Qj;have hr:=run_endRound (P:=G) none S;have Qa:∀k,k≠w.heap.size+1->(Z.putObj (w.heap.size+1) (.loop (rc .ready none))).heap[k]?=Z.heap[k]?:=λk d=>BT om;have Qw:(Instr.endRound (w.heap.size+1) none).run G Z=.ok (.bool true) (Z.putObj (w.heap.size+1) (.loop (rc .ready none))):=by
     rw[z]at hr ⊢;exact hr
    exact⟨_,_,Qw,rfl,⟨Y.putObj _ bf om S rfl,Bk (Ab.1 S).1,(Qa _ om).trans (ad _ _ (Aa _) Qr)⟩,
     (Qa _ om).trans (ad _ _ om Qo),(Qa _ om).trans (ad _ _ om Qu),Mn S rfl (af _ _ Qi),Mn S rfl (af _ _ Qv)⟩
   |ret=>exact hp.elim
   |exit id=>exact hp.elim
   |goto t=>exact hp.elim
   |panic ch=>exact hp.elim
   |outgrown=>exact hp.elim
 . rintro e c ⟨⟨v,rfl⟩,H,r,⟨A,hl,d⟩,hc,hn⟩;exact⟨none,_,by have:=run_endLoop (P:=G) hl (by rw[z];simp);rw[z]at this;exact this,ap _ _ H r (Aa _) (Y.putObj _ A om hl rfl) hc hn ((BT om).trans d)⟩
theorem Mem.setFar{V:F}{bs:List (Option (Nat × Dat))}(M:Mem w V bs)(f:w.heap.size<=B){a:Option Addr}{c:Nat}(k:Dt V B a l c)(j:∀(i:Nat) B' d,bs[i]?=some (some (B',d))->B'≠B)(u:J):Mem w (V.setCell ⟨B,0,Option.none⟩ u) bs:=by
 refine⟨λi B' d h=>?_,M.2.1,M.2.2.setCell (p:=⟨B,0,Option.none⟩) f u⟩;obtain⟨⟨cs,b,g⟩,e⟩:=M.1 i B' d h;exact⟨⟨cs,b.far (p:=⟨B,0,Option.none⟩) (j i B' d h) u,g.set1 k rfl u⟩,e⟩
def Hz(w:F)(d b:Option Addr)(c a e f:Nat)(H:List (List Rat)):List (Option (Nat × Dat)):=
 [some (w.heap.size,.cell 25 (C d c a)),some (w.heap.size+1,.cell 25 (C b e f)),some (w.heap.size+1+1,.cell 25 (C none 0 0)),some (w.heap.size+1+1+1,.poly (H.getLastD []))]
theorem eU{g:Option Addr}{b a c:Nat}{H:List (List Rat)}{i:Nat}{d:Dat}(e:(Hz w f g j b a c H)[i]?=some (some (B,d))):B<=w.heap.size+1+1+1:=by
 unfold Hz at e;rcases i with _|_|_|_|i<;>simp at e<;>omega
theorem LK(K:Nat)(va vb:J)(p q:List Rat)(w:F)(ha:Jg w va p)(y:Jg w vb q)(af:ChOk K p q):
 Calls G 8 #[va,vb] w λe Q=>∃u,e=.returned u/\Jg Q u (JT p q)/\Bl w Q:=by
 obtain⟨j,g,f,rfl⟩:=ha.form;obtain⟨s,t,m,rfl⟩:=y.form;have M0:Mem w _ _:=((((Mem.nil w).push (.cell 25 (C j g f)) (cs:=#[C j g f]) ⟨rfl,rfl⟩).push (.cell 25 (C s t m)) (cs:=#[C s t m]) ⟨rfl,rfl⟩).push (.cell 25 (C none 0 0)) (cs:=#[C none 0 0]) ⟨rfl,rfl⟩).push (.poly []) (cs:=#[C none 0 0]) (Hf _);simp only[A1]at M0;obtain⟨W0,ad⟩:=ex ((((w.alloc (E #[C j g f] 25)).alloc (E #[C s t m] 25)).alloc (E #[C none 0 0] 25)).alloc (E #[C none 0 0] 25));have M1:Mem w W0 (Hz w j s g f t m []):=by rw[<-ad];exact M0
 have hN:W0.heap.size=w.heap.size+1+1+1+1:=by rw[<-ad];simp
 obtain⟨Qi,Qf,HN,HP,HQ,Qo⟩:=I4 ad M1 hN (λ(V:F) (hB:Bl w V)=>ha.below hB) (λ(V:F) (hB:Bl w V)=>y.below hB) af;have Qg:=Ja (λ(V:F) (x:J) (r:List Rat) (hx:Jg V x r) (U:Chn p q (Dk K p q) r [])=>show Calls G 26 #[x] V λe Q=>∃u,e=.returned u/\Jg Q u (JT p q)/\Bl V Q by
  have Z:=af.bd;have h1:=St x r V hx (Db.of λi=>Sq.of (U.wa.smq Z.2.2.2 i) Z.1) U.ta (λi=>by
   have h2:=Ln.sqs U.ta U.wa.ln Z.2.2.2 i;unfold JG at h2;rw[Y2,Fz,Rat.one_mul,<-Fz]at h2;exact Sq.of h2 Z.1)
  rw[<-U.gc,LC];exact h1)
 clear ha y af M0 M1 ad hN;refine(BJ (n:=3)).1 ?_;refine BU Tryz.func8 rfl trivial ?_ rfl;simp only[Tryz.ntmps8,An,Am,AD,Nat.reduceAdd,Nat.reduceSub,AF,AG,AZ,AN,Ao,Az];gi_wp2_with fail
 rw[Qi.o];refine⟨trivial,?_⟩;refine(eS _ _ _ _ _ _ _ _).mono ?_;rintro e Q ⟨rfl,rfl⟩;obtain⟨A,S⟩:=ex ((W0.alloc (E #[C j g f] 25)).alloc (E #[C s t m] 25));have Qe:Bl W0 A:=by rw[<-S];exact(Ba W0 _).alloc (by rw[A1];omega) _
 have nP:Dt A W0.heap.size j g f:=by rw[<-S];exact(BM W0 25 (C j g f)).alloc _
 have nQ:Dt A (W0.heap.size+1) s t m:=by
  rw[<-S];have:=BM (W0.alloc (E #[C j g f] 25)) 25 (C s t m);rwa[A1]at this
 have M2:=Mem.below Qf.o Qe;have Qh:A.heap.size=w.heap.size+6:=by rw[<-S];simp[HN.o]
 rw[S,HN.o];rw[HN.o]at nP nQ;obtain⟨Qc,Qm,Ql,R⟩:=EC M2 nP nQ Qh;clear M2 nP nQ Qh Qe S Qi HN Qf;gi_wp2_with fail
 refine eT om Qo.o Qm.o Ql.o (HP.o A Qc.o.2.2) (HQ.o A Qc.o.2.2) rfl (DF Tryz.func55 (by kernel_rfl) rfl) rfl
  (λH W=>Mem w W (Hz w j s g f t m H)) (λH W W' row M hg Y=>Mem.own M hg (λr e=>⟨by have:=(Y r e).1;have:=R.o;omega,(Y r e).2⟩)) (λH W W' M y=>Mem.below M y)
  (λH W B a l c u hB y M=>Mem.setFar M (by have:=R.o;omega) y (λi B' d e=>by have:=eU e;have:=R.o;omega) u) Qc.o
  (λv b=>{ tmps:=#[N #[C j g f],N #[C s t m],L (some ⟨w.heap.size,0,none⟩),L (some ⟨w.heap.size+1,0,none⟩),L (some ⟨w.heap.size+1+1,0,none⟩),L (some ⟨w.heap.size+1+1+1,0,none⟩),L (some ⟨b,0,none⟩),N #[C j g f],N #[C s t m],.func (.func 55) #[] #[L (some ⟨w.heap.size+1+1+1+1,0,none⟩),L (some ⟨w.heap.size+1+1+1+1+1,0,none⟩)],N #[v],undef,undef,undef],defers:=[] }) ?assign ?body ?done
 case assign=>
  intro l x xl xc W K hK;gi_wp2;exact hK
 case body=>
  intro l b x xl xc r H W M y aj Y;obtain⟨ya,yl,yc,z,r3⟩:=Mem.poly2 M (i:=3) rfl;have e3:=z.cell;have f3:=z.frozen;have eb:=aj.cell;have HH:=Ja (show ∀ak,Sv A.heap.size (λH W=>Mem w W (Hz w j s g f t m H)) (H++[r]) W .normal ak (W.setCell ⟨w.heap.size+1+1+1,0,none⟩ (C x xl xc))from λak=>by
   refine⟨?_,?_,λk o hk ho=>?_,λv ps h=>h.setB z⟩
   . have X:=Mem.putPoly M (i:=3) rfl Y;show Mem w _ (Hz w j s g f t m (H++[r]));unfold Hz at X ⊢;rw[show(H++[r]).getLastD []=r by simp];exact X
   . rw[World.size_setCell];exact Aa _
   . exact(BD W ⟨w.heap.size+1+1+1,0,none⟩ _ k (by show k≠w.heap.size+1+1+1;have:=R.o;omega)).trans ho)
  clear M y aj Y z r3;gi_wp2;exact HH.o _
 case done=>
  intro D W H r hD M am ai hK;have Qn:w.heap.size<=D:=by have:=R.o;omega
  have M:Mem w W [some (w.heap.size,.cell 25 (C j g f)),some (w.heap.size+1,.cell 25 (C s t m)),some (w.heap.size+1+1,.cell 25 (C none 0 0)),some (w.heap.size+1+1+1,.poly r)]:=by
   have X:Mem w W (Hz w j s g f t m (H++[r])):=M;unfold Hz at X;rwa[show(H++[r]).getLastD []=r by simp]at X
  obtain⟨ya,yl,yc,z,r3⟩:=Mem.poly2 M (i:=3) rfl;have e3:=z.cell;have n2:=(Mem.cell M (i:=2) rfl).1;obtain⟨HC,Qk,HK⟩:=Dm (Qg.o W _ r r3 ai) M.2.2 hK;clear M am ai hK r3 z Qg;gi_wp2_with(refine⟨trivial,?_⟩;gi_at_call 26;refine((BJ (n:=_)).2 HC.o).mono ?_;clear HC;rintro e T ⟨u5,rfl,ah,ae⟩;obtain⟨P,O,I,rfl⟩:=ah.form;have n5:=boxed_below n2 ae;have x0:=n5.cell;have x1:=n5.frozen)
  have Qd:(T.setCell ⟨w.heap.size+1+1,0,none⟩ (C P O I)).heap[D]?=some (.deferred (some [])):=by
   rw[BD T ⟨w.heap.size+1+1,0,none⟩ _ D (by show D≠w.heap.size+1+1;have:=R.o;omega)];exact(ae.block D (Ab.1 HK.o).1).trans HK.o
  refine⟨DQ,.inl ⟨_,_,rfl,Bb Qd,?_⟩⟩;have q:Dt (T.setCell ⟨w.heap.size+1+1,0,none⟩ (C P O I)) (w.heap.size+1+1) P O I:=Dt.put (show Dt T (w.heap.size+1+1) none 0 0 from n5);have hg:=BV (T.setCell ⟨w.heap.size+1+1,0,none⟩ (C P O I)) D (.deferred none);have Qj:∀r,some D=some r->∃o:Obj,(T.setCell ⟨w.heap.size+1+1,0,none⟩ (C P O I)).heap[r]?=some o/\o.isCells=false:=λr e=>by cases e;exact⟨_,Qd,rfl⟩
  have q2:Dt _ (w.heap.size+1+1) P O I:=Xo hg Qj q;have g0:=q2.cell;refine⟨N #[C P O I],by simp[results,Tryz.results8,go_sem,g0],_,rfl,?_,?_⟩
  . exact Sw hg Qj (ah.setB n5)
  . exact((Bt Qk.o ae).setCell (p:=⟨w.heap.size+1+1,0,none⟩) (by show w.heap.size<=w.heap.size+1+1;omega) _).trans (DP (w:=w) (Aa _) _ D _ _ Qn Qd rfl rfl)
def KY(w V:F)(a:J)(ps:List Rat):Prop:=RowK false V a ps/\Bl w V
theorem KY.below{w V V':F}{b:J}{ps:List Rat}(h:KY w V b ps)(a:Bl V V'):KY w V' b ps:=⟨h.1.below a,Bt h.2 a⟩
theorem eV(c:Rat):((1:Int):Rat)/c=1/c:=rfl
theorem eW(va:J)(ps:List Rat)(w:F)(n:RowK false w va ps)(ad:Jd ps=ps)(ae:Db ps)(af:ps≠[]->Sq (1/cf ps (ps.length-1)))(an:ps.length<1099511627776):
 Calls G 40 #[va] w λe w'=>∃u,e=.returned u/\RowK false w' u (JG ps)/\Bl w w':=by
 have Qj:Tryz.prog.follows .mixedOrders=true:=by kernel_rfl
 obtain⟨a,la,ca,rfl⟩:=n.form;obtain⟨am,az,bc,bf,s,t,aa,bb,ll,cc,kk,dd,hc⟩:=n.formsF;by_cases j:ps=[]
 . have Qf:la=0:=by rw[am,j];rfl
   have HA:=Ja (show RowK false w (C a la ca) (JG ps)by rw[j]at n ⊢;exact n);clear n hc ae af ad j;go_enter Tryz.func40,Tryz.ntmps40
   go_wp2_with fail
   go_ret;exact⟨_,rfl,HA.o,BB _ _⟩
 . have Qf:¬(la:Int)=0:=by have:=Aq.2 j;omega
   obtain⟨m,hm⟩:=ex (la-1:Nat);have bj:(la:Int)-1=(m:Int):=om
   have bi:IntKind.i64.wrap (m:Int)=(m:Int):=by rw[BS];omega
   have bk:(m:Int)<(la:Int):=om
   have U:ps.length-1=m:=om
   obtain⟨aw,g,rfl,x,aj,ai,ak,aq⟩:=hc m om;have Qi:=Ja (show ∀V,Bl w V->(V.cell? ⟨g,m*4,none⟩=some (C (aa m) (ll m) (cc m))/\V.cell? ⟨g,m*4+1,none⟩=some (.bool (s m))/\V.cell? ⟨g,m*4+2,none⟩=some (C (bb m) (kk m) (dd m))/\V.cell? ⟨g,m*4+3,none⟩=some (.bool (t m)))/\Js V (N #[C (aa m) (ll m) (cc m),.bool (s m),C (bb m) (kk m) (dd m),.bool (t m)]) (cf ps m)from λV v=>by
    exact⟨⟨(v.cell (p:=⟨g,_,none⟩) x).trans aj,(v.cell (p:=⟨g,_,none⟩) x).trans ai,(v.cell (p:=⟨g,_,none⟩) x).trans ak,(v.cell (p:=⟨g,_,none⟩) x).trans aq⟩,aw.below v⟩)
   obtain⟨Qg,Qh,Qk,Qd,Qe⟩:=Gi (show cf ps m≠0 by rw[<-U];exact JF ad j) (show Sq (1/cf ps m)by rw[<-U];exact af j) (show Jd (YH (1/cf ps m) ps)=JG ps by unfold JG Dq;rw[U]) ae an;have R:KY w w.drew (C (some ⟨g,0,none⟩) la ca) ps:=KY.below ⟨n,BB _ _⟩ ((BB _ w).drew);have HX:=Ja R;clear n hc aw x aj ai ak aq ae af ad j U am az bc an R;go_enter Tryz.func40,Tryz.ntmps40
   go_upto_region 3 with fail
   obtain⟨bz,ay⟩:=ex (((la:Int)==0));rw[ay];clear ay;have R:=HX.o;refine Jk Qj [[],[],[],[],[3],[4],[2,5],[6],[1,7,1],[0,8,8],[9,9,0,1,2,3,4,5,6,7,8,9]] (by kernel_rfl) DS
    (λD ah V=>∃(Z Y Q ta tb P W S X T I:J),ah={ tmps:=#[C (some ⟨g,0,none⟩) la ca,undef,I,C (some ⟨g,0,none⟩) la ca,H .i64 ↑la,.bool bz,undef,Z,Y,Q,ta,tb,P,W,S,X,T],defers:=[] }/\Hid ((D 0=true->Z=C (some ⟨g,0,none⟩) la ca)/\(D 1=true->Js V Y ((1:Int):Rat))/\(D 2=true->Q=C (some ⟨g,0,none⟩) la ca)/\(D 3=true->ta=C (some ⟨g,0,none⟩) la ca)/\(D 4=true->tb=H .i64 (la:Int))/\(D 5=true->P=H .i64 (m:Int))/\(D 6=true->W=L (some ⟨g,m*4,none⟩))/\(D 7=true->Js V S (cf ps m))/\(D 8=true->Js V X (1/cf ps m))/\(D 9=true->RowK false V T (JG ps))/\(D 10=true->RowK false V I (JG ps)))/\Hid (KY w V (C (some ⟨g,0,none⟩) la ca) ps))
    (E8 ⟨_,_,_,rfl,Ja ⟨DQ,DQ,DQ,DQ,DQ,DQ,DQ,DQ,DQ,DQ,DQ⟩,Ja R⟩) ?step1 ?fin1
   case step1=>
    rintro D ah V i ds bh hi d bg ⟨Z,Y,Q,ta,tb,P,W,S,X,T,I,rfl,c,b⟩;have bm:i<11:=(Ac.1 hi).1;obtain rfl|rfl|rfl|rfl|rfl|rfl|rfl|rfl|rfl|rfl|rfl:=Ex i om
    all_goals
     simp only[Af,Ae,Ag]at hi;subst hi
    . have l:=b.o;clear d;refine DW ?_;exact⟨(Dh c),Ja (b.o)⟩
    . have l:=b.o;clear d;have o:=Ja (KH 1 om om V);refine Jb rfl rfl λK hK=>?_;go_simp;go_wp2_with(go_at_call 42;refine o.o.mono ?_;rintro e w5 ⟨v5,rfl,B,f⟩)
      obtain⟨G0,_,z,O,q,r,y,A,G8,G9,M⟩:=c.o;exact E8 ⟨_,_,_,rfl,Ja ⟨G0,λ_=>B,z,O,q,r,y,λh=>(A h).below f,λh=>(G8 h).below f,λh=>(G9 h).below f,λh=>(M h).below f⟩,Ja (b.o.below f)⟩
    . have l:=b.o;clear d;refine DW ?_;exact⟨(Dg c),Ja (b.o)⟩
    . have l:=b.o;clear d;refine DW ?_;exact⟨(Di c),Ja (b.o)⟩
    . have l:=b.o;obtain rfl:=c.o.2.2.2.1 (d 3 DQ);clear d;refine DW ?_;exact⟨(Dx (Di c)),Ja (b.o)⟩
    . have l:=b.o;obtain rfl:=c.o.2.2.2.2.1 (d 4 DQ);clear d;refine DW ?_;exact⟨(D0 (Dx c)),Ja (b.o)⟩
    . have l:=b.o;obtain rfl:=c.o.2.2.1 (d 2 DQ);obtain rfl:=Ds c (d 5 DQ);clear d;refine DW ?_;exact⟨(Dw (D0 (Dg c))),Ja (b.o)⟩
    . have l:=b.o;obtain rfl:=Dy c (d 6 DQ);obtain⟨⟨e0,e1,e2,e3⟩,hr⟩:=Qi.o V l.2;clear d;refine DW ?_;exact⟨(EB (Dw c) λ_=>hr),Ja (b.o)⟩
    . have l:=b.o;have j:=c.o.2.1 (d 1 DQ);have h1:=D9 c (d 7 DQ);clear d;have o:=Ja (Ra _ _ ((1:Int):Rat) (cf ps m) V j h1 (Sq.of (k:=1) ⟨Sm.one 1 om,Sm.one 1 om⟩ om) (Qd.o.at m) Qg.o);rw[eV]at o;clear j h1;refine Jb rfl rfl λK hK=>?_;go_simp;go_wp2_with(go_at_call 77;refine o.o.mono ?_;rintro e w5 ⟨v5,rfl,B,f⟩)
      obtain⟨G0,G1,z,O,q,r,y,A,_,G9,M⟩:=c.o;exact E8 ⟨_,_,_,rfl,Ja ⟨G0,λh=>(G1 h).below f,z,O,q,r,y,λh=>(A h).below f,λ_=>B,λh=>(G9 h).below f,λh=>(M h).below f⟩,Ja (b.o.below f)⟩
    . have l:=b.o;have j:=EF c (d 8 DQ);obtain rfl:=c.o.1 (d 0 DQ);clear d;have o:=Ja (Rf _ _ ps (1/cf ps m) V l.1 j Qd.o Qh.o Qe.o);rw[Qk.o]at o;clear j;refine Jb rfl rfl λK hK=>?_;go_simp;go_wp2_with(go_at_call 76;refine o.o.mono ?_;rintro e w5 ⟨v5,rfl,B,f⟩)
      obtain⟨_,G1,z,O,q,r,y,A,G8,_,M⟩:=c.o;exact E8 ⟨_,_,_,rfl,Ja ⟨λ_=>rfl,λh=>(G1 h).below f,z,O,q,r,y,λh=>(A h).below f,λh=>(G8 h).below f,λ_=>B,λh=>(M h).below f⟩,Ja (b.o.below f)⟩
    . have l:=b.o;have j:=EU c (d 9 DQ);clear d;refine DW ?_;exact⟨(Ko c λ_=>j),Ja (b.o)⟩
   case fin1=>
    rintro D ah V ap ⟨Z,Y,Q,ta,tb,P,W,S,X,T,I,rfl,c,b⟩;have h9:=c.o.2.2.2.2.2.2.2.2.2.2 (ap 10 DS);have HH:=Ja (show RowK false V I (JG ps)/\Bl w V from⟨h9,b.o.2⟩);clear c b ap h9;go_wp2_with fail
    go_ret;exact⟨_,rfl,HH.o⟩
theorem Rhn.dvn{b:List Rat}(h:Rhn p q (Dk K p q) a b)(i:b≠[]):∃D E:Int,Dvn D E E (Dk K p q) (Dk K p q) a b:=by
 obtain⟨D,d1,e,g⟩:=h.ca;obtain⟨E,c,d,f⟩:=h.cb;exact⟨D,E,d1,e,g,c,d,f,c,d,by rw[h.mb i,Rat.divInt_self' c]⟩
theorem ChOk.fit(b:ChOk K p q)(d:a.length<=max p.length q.length):Dk K p q+a.length*(Dk K p q+1)+1+(2*Dk K p q+1)<=1000000:=by
 have c:(a.length+2)*(Dk K p q+1)<=(max p.length q.length+2)*(Dk K p q+1):=Ak _ om;have f:(a.length+2)*(Dk K p q+1)=a.length*(Dk K p q+1)+2*(Dk K p q+1):=AA _ _ _;have e:=b.le;omega
theorem Sx(K:Nat)(Y vb:J)(p q:List Rat)(w:F)(ha:RowK false w Y p)(P:RowK false w vb q)(c:ChOk K p q):
 Calls G 13 #[Y,vb] w λe f=>∃u,e=.returned u/\RowK false f u (JT p q)/\Bl w f:=by
 obtain⟨A,hA⟩:=ex (Dk K p q);have s:=c.bd;have Qo:=c.ln;have mono:∀(r:List Rat),Jd r=r->(∃D:Int,D≠0/\Sm 1000000 D/\EH D 1000000 r)->r.length<=1000->∀(V:F) (x:J),RowK false V x r->Calls G 40 #[x] V λe f=>∃u,e=.returned u/\RowK false f u (JG r)/\Bl V f:=λr tr hr hl V x j=>by
  obtain⟨D,d1,W,R⟩:=hr;exact eW x r V j tr (Db.of λi=>Sq.of ((R i).smq d1 W) (Aa _)) (λk=>by
   rw[Fz,Rat.one_mul];exact Sq.of (((R _).smq d1 W).inv (JF tr k)) (Aa _)) om
 have Qa:∀(r:List Rat),(∃D:Int,D≠0/\Sm K D/\EH D K r)->∃D:Int,D≠0/\Sm 1000000 D/\EH D 1000000 r:=λr h=>by
  obtain⟨D,d1,W,R⟩:=h;exact⟨D,d1,W.mono s.2.1,λi=>(R i).mono s.2.1⟩
 obtain⟨H1,H2,U,Qg⟩:=EC (λ(V:F) (Z:Bl w V)=>mono p c.tp (Qa p c.cp) om V Y (ha.below Z)) (λ(V:F) (Z:Bl w V)=>mono q c.tq (Qa q c.cq) om V vb (P.below Z)) (Rhn.start c.tp c.tq c.lp c.lq s.2.2.1) (λ(a b:List Rat) (h:Rhn p q (Dk K p q) a b) (P:b≠[])=>Rhn.next c.tp c.tq c.lp c.lq s.2.2.1 h P);have Qk:=Ja (λ(a b:List Rat) (h:Rhn p q (Dk K p q) a b) (k:b≠[]) (V:F) (x y:J) (j:RowK false V x a) (hy:RowK false V y b)=>show Calls G 41 #[x,y] V λe f=>∃u v,e=.returned (.tuple #[u,v])/\RowK false f u (Y8 a b)/\RowK false f v (J3 a b)/\Bl V f by
  obtain⟨D,E,l⟩:=Rhn.dvn h k;have hf:=c.fit h.la;exact dq _ (Dk K p q) x y a b V j hy (l.divS a.length om) l.start l.sq h.ta h.tb k (by have:=h.la;omega))
 have Qj:=Ja (λ(a b:List Rat) (h:Rhn p q (Dk K p q) a b) (k:b≠[]) (V:F) (x:J) (j:RowK false V x (J3 a b))=>mono (J3 a b) (YP _ _) (by
  obtain⟨D,E,l⟩:=Rhn.dvn h k;have hf:=c.fit h.la;obtain⟨m,hm⟩:=ex (a.length-(b.length-1));have ak:m*(Dk K p q+1)<=a.length*(Dk K p q+1):=Ak _ om;have Q:=l.den m;have h2:=(l.rem hm).1;exact⟨_,Q.1,Q.2.mono om,λi=>(h2 i).mono om⟩) (by have Q:=(YN a b h.tb k).2.1;have h2:=h.lb;omega) V x j)
 have Qi:=Ja (λ(a:List Rat) (h:Rhn p q (Dk K p q) a [])=>show a=JT p q by rw[<-h.gc,LC,h.ma]);have Qh:=Ja (λ(a b:List Rat) (h:Rhn p q (Dk K p q) a b)=>show b.length<=1000 by have:=h.lb;omega);rw[hA]at U Qg Qk Qj Qi Qh;clear mono Qa c s Qo ha P hA;go_enter Tryz.func13,Tryz.ntmps13
 have Qd:Bl w w:=BB _ _;go_wp2_with(first
  |(go_at_call 40;refine(H1.o _ Qd).mono ?_;clear H1;rintro e w1 ⟨u1,rfl,n,ai⟩;have Qf:=Bt Qd ai;clear Qd)
  |(go_at_call 40;refine(H2.o _ Qf).mono ?_;clear H2;rintro e w2 ⟨u2,rfl,o,ad⟩;have Qm:=Bt Qf ad;have n:=n.below ad))
 obtain⟨B,S,T,rfl⟩:=n.form;obtain⟨I,d,M,rfl⟩:=o.form;go_loopw [5,6,7,8] (λav bv _ _ wr=>∃(a b:List Rat) (B:Option Addr) (S T:Nat) (I:Option Addr) (d M:Nat),av=C B S T/\bv=C I d M/\d<=1000/\Hid (d=b.length)/\Hid (RowK false wr (C B S T) a)/\Hid (RowK false wr (C I d M) b)/\Hid (Rhn p q A a b)/\Hid (Bl w wr)) (λ_ bv _ _ _=>lenOf bv)
 case atStart=>exact⟨_,_,_,_,_,_,_,_,rfl,rfl,by have:=Qh.o _ _ U.o;have:=o.formsF.1;omega,Ja o.formsF.1,Ja n,Ja o,U,Ja Qm⟩
 case round=>
  clear n o ai ad Qf Qm U;obtain⟨a,b,B,S,T,I,d,M,rfl,rfl,am,X,HA,HB,t,HQ⟩:=hrel;by_cases g:b=[]
  . have Qn:¬(0:Int)<(d:Int):=by have:=X.o;rw[g]at this;simp at this;omega
    have Qr:=Ja (show a=JT p q from Qi.o a (by have:=t.o;rwa[g]at this));clear g;go_wp2_with fail
    go_ret;exact⟨_,rfl,by rw[<-Qr.o];exact HA.o,HQ.o⟩
  . have Qn:(0:Int)<(d:Int):=by have:=X.o;have:=Aq.2 g;omega
    obtain⟨H3,H4,HN,Ql⟩:=EC (Qk.o a b t.o g wr _ _ HA.o HB.o) (λ(V:F) (x:J) (j:RowK false V x (J3 a b))=>Qj.o a b t.o g V x j) (Qg.o a b t.o g) (show(JG (J3 a b)).length<b.length by rw[Yh (YP _ _)];exact(YN a b t.o.tb g).2.1);clear g;go_wp2_with(first
     |(go_at_call 41;refine H3.o.mono ?_;clear H3;rintro e w3 ⟨u3,v3,rfl,aj,ah,O⟩)
     |(go_at_call 40;refine(H4.o _ _ ah).mono ?_;clear H4;rintro e w4 ⟨u4,rfl,af,ae⟩;obtain⟨za,zl,zc,rfl⟩:=af.form))
    obtain⟨z,Qp,Qq⟩:=Dm af ((HB.o.below O).below ae) ((Bt HQ.o O).trans (ae.mono (As HQ.o.size O.size)));clear aj ah O af ae;go_roundw
    case rel=>exact⟨b,JG (J3 a b),_,_,_,_,_,_,rfl,rfl,by have:=z.o.formsF.1;have:=Ql.o;have:=X.o;omega,Ja z.o.formsF.1,Qp,z,HN,Qq⟩
    case measure=>
     show zl<d;have Q:=z.o.formsF.1;have h2:=Ql.o;have h3:=X.o;omega
end Go.Proofs.YteldjhhjnchdeaaGreatDoor.M3
namespace Go.Proofs.YteldjhhjnchdeaaGreatDoor
def Dv(a b:List Rat):Prop:=∃c:List Rat,∀x,ev b x=ev a x*ev c x
def eX(a b:List Rat):Prop:=∃u v:List Rat,∀x,ev u x*ev a x+ev v x*ev b x=1
section
variable {a b c d p q:List Rat}
theorem Dv.refl(a:List Rat):Dv a a:=⟨[1],λx=>by simp[ev];grind⟩
theorem Dv.trans(h:Dv a b)(f:Dv b c):Dv a c:=by
 obtain⟨u,d⟩:=h;obtain⟨v,e⟩:=f;exact⟨JR u v,λx=>by rw[e,d,XR];grind⟩
theorem Dv.zero(a:List Rat):Dv a []:=⟨[],λx=>by simp[ev]⟩
theorem Dv.sc(h:Dv a b)(k:Rat):Dv a (Dq k b):=by
 obtain⟨u,c⟩:=h;exact⟨Dq k u,λx=>by rw[XF,c,XF];grind⟩
end
section
variable {p q d:List Rat}
theorem eY:∀(n:Nat) (p q:List Rat),Jd p=p->Jd q=q->q.length<=n->JG (Ew n p q)=Ew n p q:=by
 intro n;induction n with
 |zero=>intro p q hp _ _;exact Me hp
 |succ n b=>
  intro p q hp hq hl;rw[Ew];split
  . exact Me hp
  . rename_i a;have:=(YN p q hq a).2.1;exact b _ _ hq (YP _ _) om
theorem Ol(hp:Jd p=p)(hq:Jd q=q):JG (JT p q)=JT p q:=eY _ p q hp hq (Aa _)
end
theorem Dv.some{a b:List Rat}(d:Jd b=b)(h:Dv a b):∃c,Jd c=c/\b=JR a c:=by
 obtain⟨c,e⟩:=h;exact⟨Jd c,Yj _,IX d (XH _ _) λx=>by rw[XR,Hh,e]⟩
end Go.Proofs.YteldjhhjnchdeaaGreatDoor
namespace Go.Proofs.YteldjhhjnchdeaaGreatDoor
section
variable {a b c d e f g k p q r u w y z R:List Rat}
structure Yun(R w y:List Rat):Prop where
 tR:Jd R=R
 R0:R≠[]
 tw:Jd w=w
 w0:w≠[]
 mw:JG w=w
 ty:Jd y=y
 eq:∀x,ev y x*ev R x=ev w x*ev (Jm R) x
 cop:eX w y
end
end Go.Proofs.YteldjhhjnchdeaaGreatDoor
namespace Go.Proofs.YteldjhhjnchdeaaGreatDoor
open Go.RowKit Go.Shelf
def Cd(M:Nat)(p:List Rat):Prop:=∃D:Int,D≠0/\Sm M D/\EH D M p
section
variable {M N:Nat} {p q:List Rat}
theorem Cd.mono(h:Cd M p)(a:M<=N):Cd N p:=by
 obtain⟨D,d1,b,c⟩:=h;exact⟨D,d1,b.mono a,λi=>(c i).mono a⟩
theorem Cd.smq(h:Cd M p)(i:Nat):Df M (cf p i):=by
 obtain⟨D,d1,a,b⟩:=h;exact(b i).smq d1 a
theorem Cd.ln(h:Cd M p):Ln M p:=by
 obtain⟨D,d1,b,a⟩:=h;exact a.ln d1
theorem Cd.sqs(h:Cd M p)(a:M<=1000000):Db p:=Db.of λi=>Sq.of (h.smq i) a
theorem Cd.pos(h:Cd M p):1<=M:=by
 obtain⟨D,d1,a,_⟩:=h;by_cases b:1<=M
 . exact b
 . exfalso
   obtain rfl:M=0:=om
   unfold Sm at a;have:D.natAbs≠0:=Int.natAbs_ne_zero.2 d1;simp at a;omega
theorem Cd.mon(h:Cd M p)(tp:Jd p=p):Cd M (JG p):=LG tp h.ln h.pos
theorem Cd.monS(h:Cd M p)(tp:Jd p=p)(b:M<=1000000)(i:Nat):Sq (cf p i/cf p (p.length-1)):=by
 have a:=Ln.sqs tp h.ln h.pos i;unfold JG at a;rw[Y2,Fz,Rat.one_mul,<-Fz]at a;exact Sq.of a b
theorem Cd.dvn(h:Cd M p)(g:Cd M q)(e:cf q (q.length-1)=1):∃D E:Int,Dvn D E E M M p q:=by
 obtain⟨D,d1,c,f⟩:=h;obtain⟨E,a,b,d⟩:=g;exact⟨D,E,d1,c,f,a,b,d,a,b,by rw[e,Rat.divInt_self' a]⟩
theorem Cd.quo(h:Cd M p)(e:Cd M q)(b:cf q (q.length-1)=1):Cd ((p.length+1)*(M+1)) (Y8 p q)/\Cd ((p.length+1)*(M+1)) (J3 p q):=by
 obtain⟨D,E,c⟩:=h.dvn e b;obtain⟨m,b⟩:=ex (p.length-(q.length-1));have a:=c.den m;have d:=c.rem b;have f:m*(M+1)<=p.length*(M+1):=Ak _ om;have g:(p.length+1)*(M+1)=p.length*(M+1)+(M+1):=by rw[AA,Cw]
 exact⟨⟨_,a.1,a.2.mono om,λi=>(d.2 i).mono om⟩,⟨_,a.1,a.2.mono om,λi=>(d.1 i).mono om⟩⟩
end
variable{q:List Rat}
theorem Sy(tq:Jd q=q)(q0:q≠[])(a:JG q=q):cf q (q.length-1)=1:=by
 have:=SX tq q0;rwa[a]at this
def Dr(p q:List Rat):List Rat:=if q=[]then []else Y8 p q
theorem eZ(p q:List Rat):Jd (Dr p q)=Dr p q:=by
 unfold Dr;split
 . rfl
 . exact dS _ _
theorem Cd.ov{M:Nat}{p:List Rat}(h:Cd M p)(c:Cd M q)(tq:Jd q=q)(a:JG q=q):Cd ((p.length+1)*(M+1)) (Dr p q):=by
 unfold Dr;split
 . refine(show Cd 1 []from Sk om).mono ?_;have:1*1<=(p.length+1)*(M+1):=CN om om;omega
 . rename_i b;exact(h.quo c (Sy tq b a)).1
def KZ(p:List Rat):List Rat:=JG (Dr p (JT p (Jm p)))
namespace M3
variable{p q:List Rat}{K:Nat}
theorem Chn.ends(d:ChOk K p q):∀(n:Nat) (a b:List Rat),b.length<=n->Chn p q (Dk K p q) a b->∃r,Chn p q (Dk K p q) r []:=by
 intro n;induction n with
 |zero=>
  intro a b hl h;have c:b=[]:=Oe om;subst c;exact⟨a,h⟩
 |succ n e=>
  intro a b hl h;by_cases c:b=[]
  . subst c;exact⟨a,h⟩
  . have f:=Ml (a:=a) h.tb c;exact e b (Ep a b) om (Chn.next d.tp d.tq d.lp d.lq d.bd.2.2.1 h c)
theorem ChOk.gcd(a:ChOk K p q):Cd (Dk K p q) (JT p q):=by
 obtain⟨r,b⟩:=Chn.ends a _ _ _ (Aa _) (Chn.start a.tp a.tq a.lp a.lq a.bd.2.2.1);rw[<-b.gc,LC];exact LG b.ta b.wa.ln a.bd.2.2.2
theorem Sz(M:Nat)(v:J)(p:List Rat)(w:F)(h:Jg w v p)(tp:Jd p=p)(b:Cd M p)(a:M<=1000000):
 Calls G 26 #[v] w λe c=>∃u,e=.returned u/\Jg c u (JG p)/\Bl w c:=
 St v p w h (b.sqs a) tp (λi=>b.monS tp a i)
theorem ec(M:Nat)(a b:J)(p q:List Rat)(w:F)(f:Jg w a p)(j:Jg w b q)(hp:Cd M p)(hq:Cd M q)(tp:Jd p=p)(tq:Jd q=q)(d:JG q=q)(n:2*((p.length+3)*(M+1))<=1000000):
 Calls G 22 #[a,b] w λe c=>∃u v,e=.returned (.tuple #[u,v,.bool (decide (q≠[]))])/\Jg c u (if q=[]then []else Y8 p q)/\Jg c v (if q=[]then []else J3 p q)/\Bl w c:=by
 have k:(p.length+3)*(M+1)=p.length*(M+1)+3*(M+1):=AA _ _ _;refine SI M a b p q w f j (hp.sqs om) hq.smq tp tq (λq0=>?_);obtain⟨D,E,g⟩:=hp.dvn hq (Sy tq q0 d);obtain⟨m,i⟩:=ex (p.length-(q.length-1));have l:m*(M+1)<=p.length*(M+1):=Ak _ om;rw[i];exact g.sizes om
attribute [local go_sem] Oper.semAt_some
theorem LL(M:Nat)(K P:J)(p q:List Rat)(w:F)(r:Jg w K p)(y:Jg w P q)(hp:Cd M p)(hq:Cd M q)(tp:Jd p=p)(tq:Jd q=q)(I:JG q=q)(T:2*((p.length+3)*(M+1))<=1000000):
 Calls G 46 #[K,P] w λe Q=>∃u,e=.returned u/\Jg Q u (Dr p q)/\Bl w Q:=by
 obtain⟨j,la,g,rfl⟩:=r.form;obtain⟨m,lb,d,rfl⟩:=y.form;have z:=(((Mem.nil w).push (.cell 25 (C j la g)) (cs:=#[C j la g]) ⟨rfl,rfl⟩).push (.cell 25 (C m lb d)) (cs:=#[C m lb d]) ⟨rfl,rfl⟩).push (.cell 25 (C none 0 0)) (cs:=#[C none 0 0]) ⟨rfl,rfl⟩;simp only[A1]at z;obtain⟨W0,o⟩:=ex (((w.alloc (E #[C j la g] 25)).alloc (E #[C m lb d] 25)).alloc (E #[C none 0 0] 25));have U:=Ja o;have a:Hid (Mem w W0 [some (w.heap.size,.cell 25 (C j la g)),some (w.heap.size+1,.cell 25 (C m lb d)),some (w.heap.size+1+1,.cell 25 (C none 0 0))]):=Ja (by rw[<-o];exact z);have s:=Ja (ec M _ _ p q W0 (r.below a.o.2.2) (y.below a.o.2.2) hp hq tp tq I T);obtain⟨Z,D⟩:=ex (decide (q≠[]));rw[D,show(if q=[]then []else Y8 p q)=Dr p q from rfl]at s;have c0:=(a.o.cell (i:=0) rfl).1.cell;have c1:=(a.o.cell (i:=1) rfl).1.cell;have W:=(a.o.cell (i:=2) rfl).1;have A:=Ja a.o.2.2;clear z o r y hp hq tp tq I T D a;go_enter Tryz.func46,Tryz.ntmps46
 go_upto_region 1 with fail
 rw[U.o];clear U;go_upto_region 2 with(go_at_call 22;refine s.o.mono ?_;clear s;rintro e k ⟨u4,v4,rfl,t,B,l⟩;obtain⟨b,c,c4,rfl⟩:=t.form;obtain⟨R,S,O,rfl⟩:=B.form)
 have f:Bl k ((k.alloc (E #[C b c c4] 25)).alloc (E #[C R S O] 25)):=(Ba k _).alloc (by rw[A1];omega) _;have nb:=(BM k 25 (C b c c4)).alloc (E #[C R S O] 25);have Y:=nb.cell;have n:=boxed_below (boxed_below W l) f;have x0:=n.cell;have x1:=n.frozen;have V:=Ja (LH n (x:=C b c c4) (t.below f));have X:=Ja (((Bt A.o l).trans (f.mono (As A.o.size l.size))).setCell (p:=⟨w.heap.size+1+1,0,none⟩) (by show w.heap.size<=w.heap.size+1+1;omega) (C b c c4));clear c0 c1 t B l nb n f;go_wp2_with fail
 exact BA (v:=N #[C b c c4]) (by simp[results,Tryz.results46,go_sem,x0]) rfl ⟨_,rfl,V.o,X.o⟩
structure FrOk(K:Nat)(p:List Rat):Prop where
 ch:ChOk K p (Jm p)
 le:(p.length+3)*(Dk K p (Jm p)+1)*2<=1000000
theorem FrOk.cd(h:FrOk K p):Cd (Dk K p (Jm p)) p:=(show Cd K p from h.ch.cp).mono (by have:=He K p (Jm p);omega)
theorem FrOk.sl(h:FrOk K p)(i:Nat):Sq (IJ p i):=by
 have b:=(show Cd K (Jm p)from h.ch.cq).sqs h.ch.bd.2.1;have a:=b.at i;unfold Jm at a;rwa[JX,Mv]at a
theorem ee(K:Nat)(v:J)(p:List Rat)(w:F)(h:Jg w v p)(m:FrOk K p):
 Calls G 16 #[v] w λe w'=>∃u,e=.returned u/\Jg w' u (KZ p)/\Bl w w':=by
 have Qi:Tryz.prog.follows .mixedOrders=true:=by kernel_rfl
 obtain⟨k,la,j,rfl⟩:=h.form;have M0:=((Mem.nil w).push (.cell 25 (C k la j)) (cs:=#[C k la j]) ⟨rfl,rfl⟩).push (.poly []) (cs:=#[C none 0 0]) (Hf _);simp only[A1]at M0;obtain⟨W0,ad⟩:=ex ((w.alloc (E #[C k la j] 25)).alloc (E #[C none 0 0] 25));have Qd:=Ja ad;have h9:=m.le;have h8:=m.ch.bd;have h7:(p.length+3)*(Dk K p (Jm p)+1)=(p.length+1)*(Dk K p (Jm p)+1)+2*(Dk K p (Jm p)+1):=by rw[<-AA]
 have Qa:=m.ch.gcd;have Qb:=Ol m.ch.tp m.ch.tq;obtain⟨Qh,Qj,Qg,Qc⟩:=EC (λ(V:F) (Q:Bl w V)=>Oa (N #[C k la j]) p V (h.below Q) (m.cd.sqs h8.1) m.sl) (λ(V:F) (Q:Bl w V) (y:J) (O:Jg V y (Jm p))=>LK K (N #[C k la j]) y p (Jm p) V (h.below Q) O m.ch) (λ(V:F) (Q:Bl w V) (y:J) (O:Jg V y (JT p (Jm p)))=>LL (Dk K p (Jm p)) (N #[C k la j]) y p (JT p (Jm p)) V (h.below Q) O m.cd Qa m.ch.tp (KU _ _) Qb om) (λ(V:F) (y:J) (O:Jg V y (Dr p (JT p (Jm p))))=>Sz ((p.length+1)*(Dk K p (Jm p)+1)) y (Dr p (JT p (Jm p))) V O (eZ _ _) (m.cd.ov Qa (KU _ _) Qb) om);rw[show JG (Dr p (JT p (Jm p)))=KZ p from rfl]at Qc;have M1:Hid (Mem w W0 [some (w.heap.size,.cell 25 (C k la j)),some (w.heap.size+1,.poly ([]))]):=Ja (by rw[<-ad];exact M0);clear M0 ad h m h9 h8 h7 Qa Qb;go_enter Tryz.func16,Tryz.ntmps16
 go_upto_region 1 with fail
 rw[Qd.o];clear Qd;refine Jk Qi [[],[],[],[2],[1,3,3],[0,4,4],[5,5],[6,6,0,1,2,3,4,5,6]] (by kernel_rfl) DS
  (λD ae V=>∃(ta tb T Y W U X:J) (S:Option (Nat × Dat)),ae={ tmps:=#[N #[C k la j],L (some ⟨w.heap.size,0,none⟩),L (some ⟨w.heap.size+1,0,none⟩),ta,tb,T,Y,W,U,X],defers:=[] }/\Hid ((D 0=true->ta=N #[C k la j])/\(D 1=true->tb=N #[C k la j])/\(D 2=true->T=N #[C k la j])/\(D 3=true->Has V Y (.poly (Jm p)))/\(D 4=true->Has V W (.poly (JT p (Jm p))))/\(D 5=true->Has V U (.poly (Dr p (JT p (Jm p)))))/\(D 6=true->Has V X (.poly (KZ p)))/\((D 7=false->S=some (w.heap.size+1,.poly ([])))/\(D 7=true->S=some (w.heap.size+1,.poly (KZ p)))))/\Hid (Mem w V [some (w.heap.size,.cell 25 (C k la j)),S]))
  ⟨_,_,_,_,_,_,_,_,rfl,Ja ⟨DQ,DQ,DQ,DQ,DQ,DQ,DQ,⟨λ_=>rfl,DQ⟩⟩,Ja (M1.o).drew⟩ ?step1 ?fin1
 case step1=>
  rintro D ae V i ds ai hi g af ⟨ta,tb,T,Y,W,U,X,S,rfl,b,f⟩;have ah:i<8:=(Ac.1 hi).1;obtain rfl|rfl|rfl|rfl|rfl|rfl|rfl|rfl:=LP i om
  all_goals
   simp only[Af,Ae,Ag]at hi;subst hi
  . have e0:=(f.o.cell (i:=0) rfl).1.cell;clear g;refine Za ?_;exact⟨_,_,_,_,_,_,_,_,rfl,(Dh b),Ja (f.o)⟩
  . have e0:=(f.o.cell (i:=0) rfl).1.cell;clear g;refine Za ?_;exact⟨_,_,_,_,_,_,_,_,rfl,(Dp b),Ja (f.o)⟩
  . have e0:=(f.o.cell (i:=0) rfl).1.cell;clear g;refine Za ?_;exact⟨_,_,_,_,_,_,_,_,rfl,(Dg b),Ja (f.o)⟩
  . obtain rfl:=(b.o.2.2.1 (g 2 DQ));have x:=Ja (Qh.o V f.o.2.2);clear g;refine Jb rfl rfl λK Z=>?_;go_simp;go_wp2_with(go_at_call 24;refine x.o.mono ?_;rintro e w5 ⟨v5,rfl,s,d⟩)
    obtain⟨t,B,_,_,o,q,A,z⟩:=b.o;exact⟨_,_,_,_,_,_,_,_,rfl,Ja ⟨t,B,λ_=>rfl,λ_=>s,λh=>(o h).below d,λh=>(q h).below d,λh=>(A h).below d,z⟩,Ja (f.o.below d)⟩
  . obtain rfl:=(b.o.2.1 (g 1 DQ));have R:=(b.o.2.2.2.1 (g 3 DQ));have x:=Ja (Qj.o V f.o.2.2 _ R);clear g R;refine Jb rfl rfl λK Z=>?_;go_simp;go_wp2_with(go_at_call 8;refine x.o.mono ?_;rintro e w5 ⟨v5,rfl,s,d⟩)
    obtain⟨t,_,I,M,_,q,A,z⟩:=b.o;exact⟨_,_,_,_,_,_,_,_,rfl,Ja ⟨t,λ_=>rfl,I,λh=>(M h).below d,λ_=>s,λh=>(q h).below d,λh=>(A h).below d,z⟩,Ja (f.o.below d)⟩
  . obtain rfl:=(b.o.1 (g 0 DQ));have R:=(b.o.2.2.2.2.1 (g 4 DQ));have x:=Ja (Qg.o V f.o.2.2 _ R);clear g R;refine Jb rfl rfl λK Z=>?_;go_simp;go_wp2_with(go_at_call 46;refine x.o.mono ?_;rintro e w5 ⟨v5,rfl,s,d⟩)
    obtain⟨_,B,I,M,o,_,A,z⟩:=b.o;exact⟨_,_,_,_,_,_,_,_,rfl,Ja ⟨λ_=>rfl,B,I,λh=>(M h).below d,λh=>(o h).below d,λ_=>s,λh=>(A h).below d,z⟩,Ja (f.o.below d)⟩
  . have h0:=((Ds b) (g 5 DQ));have x:=Ja (Qc.o V _ h0);clear g h0;refine Jb rfl rfl λK Z=>?_;go_simp;go_wp2_with(go_at_call 26;refine x.o.mono ?_;rintro e w5 ⟨v5,rfl,s,d⟩)
    obtain⟨t,B,I,M,o,q,_,z⟩:=b.o;exact⟨_,_,_,_,_,_,_,_,rfl,Ja ⟨t,B,I,λh=>(M h).below d,λh=>(o h).below d,λh=>(q h).below d,λ_=>s,z⟩,Ja (f.o.below d)⟩
  . obtain rfl:=D9 b af;have hv:=((Dy b) (g 6 DQ));obtain⟨a1,l1,c1,rfl⟩:=Jg.form (show Jg V _ _ from hv);obtain⟨a,l,c,n,r⟩:=f.o.poly2 (i:=1) rfl;have e0:=n.cell;have f0:=n.frozen;clear g;refine Za ?_;obtain⟨t,B,I,M,o,q,A,_⟩:=b.o;exact⟨_,_,_,_,_,_,_,_,rfl,Ja ⟨t,B,I,λh=>(M h).set1 n rfl _,λh=>(o h).set1 n rfl _,λh=>(q h).set1 n rfl _,λh=>(A h).set1 n rfl _,⟨λh=>by simp at h,λ_=>rfl⟩⟩,Ja (f.o.putPoly (i:=1) rfl hv)⟩
 rintro D ae V2 P ⟨ta,tb,T,Y,W,U,X,S,rfl,b,f⟩;obtain rfl:=b.o.2.2.2.2.2.2.2.2 (P 7 DS);obtain rfl:=b.o.1 (P 0 DS);obtain rfl:=b.o.2.1 (P 1 DS);obtain rfl:=b.o.2.2.1 (P 2 DS);clear b P M1;have M2:Hid (Mem w V2 [some (w.heap.size,.cell 25 (C k la j)),some (w.heap.size+1,.poly (KZ p))]):=f;clear f;obtain⟨a3,l3,c3,n3,r3⟩:=M2.o.poly2 (i:=1) rfl;have Qf:=n3.cell;have Qe:=Ja M2.o.2.2;go_wp2_with fail
 exact BA (v:=N #[C a3 l3 c3]) (by simp[results,Tryz.results16,go_sem,Qf]) rfl ⟨_,rfl,r3,Qe.o⟩
end M3
end Go.Proofs.YteldjhhjnchdeaaGreatDoor
namespace Go.Proofs.YteldjhhjnchdeaaGreatDoor
open Go.RowKit Go.Shelf
variable{r:Bool}{p:List Rat}{cs:List J}{B base c l t:Nat}{a:Option Addr}{v:J}{W W':F}
theorem Tryz.infoPart:(Tryz.prog.info? 44).map (λi=>(i.zero,i.size,i.bytes))=some (some (N #[C none 0 0,H .i64 0]),2,32):=by kernel_rfl
theorem Tryz.infoRPart:(Tryz.prog.info? 46).map (λi=>(i.zero,i.size,i.bytes))=some (some (N #[C none 0 0,H .i64 0]),2,32):=by kernel_rfl
def ER(r:Bool):TypeId:=match r with|true=>44|false=>46
def Gt(r:Bool):TypeId:=match r with|true=>39|false=>41
def zP:Array J:=#[C none 0 0,H .i64 0]
theorem ej(r:Bool):Tryz.prog.underlying (Gt r)=some (.slice (ER r)):=by
 cases r with
 |true=>exact Tryz.underlying39
 |false=>exact Tryz.underlying41
theorem eo(r:Bool):∃i,Tryz.prog.info? (ER r)=some i/\i.zero=some (N zP)/\i.size=2/\i.bytes=32:=by
 cases r with
 |true=>
  obtain⟨i,a,b,d,c⟩:=Bo Tryz.infoPart;exact⟨i,a,b,d,c⟩
 |false=>
  obtain⟨i,a,b,d,c⟩:=Bo Tryz.infoRPart;exact⟨i,a,b,d,c⟩
def Hg(r:Bool)(W W':F):Prop:=∀B,B<W.heap.size->(∀cs m,W.heap[B]?≠some (E cs (ER r) m))->W'.heap[B]?=W.heap[B]?
theorem Hg.at(h:Hg r W W'){cs:Array J}{t:TypeId}{m:Nat × Nat}(a:W.heap[B]?=some (E cs t m))(b:t≠ER r):W'.heap[B]?=W.heap[B]?:=
 h B (Ab.1 a).1 λc d e=>by
  rw[a]at e;simp only[Ag,Bu]at e;exact b e.2.1
theorem er(k:IntKind)(r:Bool):NN k≠ER r:=by cases r<;>cases k<;>decide
theorem ez(k:Bool)(r:Bool):EK k≠ER r:=by cases r<;>cases k<;>decide
theorem Hg.row(h:Hg r W W'){k:IntKind}{ds:List Nat}(n:Row k W v ds):Row k W' v ds:=by
 obtain⟨a,c,e,t,o,i,d⟩:=n;refine⟨a,c,e,t,o,i,?_⟩;rcases d with d|⟨b,off,s,g,p⟩
 . exact Or.inl d
 . obtain⟨cs,m,q⟩:=id g;have f:=h.at q (er k r);refine Or.inr ⟨b,off,s,g.of f,λj l=>?_⟩;rw[<-p j l];simp only[World.cell?,f]
theorem Hg.rowK(h:Hg r W W'){k:Bool}{qs:List Rat}(m:RowK k W v qs):RowK k W' v qs:=by
 obtain⟨a,cap,e,f,s,A,c⟩:=m;refine⟨a,cap,e,f,s,A,?_⟩;rcases c with c|⟨b,w,cs,d,q⟩
 . exact Or.inl c
 . refine Or.inr ⟨b,w,cs,(h.at d (ez k r)).trans d,λj i=>?_⟩;obtain⟨x,y,z,u,l,n,p,o,t⟩:=q j i;exact⟨x,y,z,u,l,n,p,o,t.keep (λ_ _ _ g=>h.row g)⟩
def Gd(r:Bool)(W:F)(cs:List J)(L:List (List Rat × Nat)):Prop:=
 cs.length=L.length*2/\∀j p t,L[j]?=some (p,t)->∃x,cs[j*2]?=some x/\cs[j*2+1]?=some (.int .i64 (t:Int))/\RowK r W x p
theorem Gd.keep{L:List (List Rat × Nat)}(h:Gd r W cs L)(c:∀v qs,RowK r W v qs->RowK r W' v qs):Gd r W' cs L:=by
 refine⟨h.1,λj p t e=>?_⟩;obtain⟨x,a,b,d⟩:=h.2 j p t e;exact⟨x,a,b,c _ _ d⟩
theorem Gd.below{r:Bool}{W W':F}{cs:List J}{L:List (List Rat × Nat)}(h:Gd r W cs L)(a:Bl W W'):Gd r W' cs L:=h.keep λ_ _ g=>g.below a
theorem Gd.snoc{L:List (List Rat × Nat)}(h:Gd r W cs L){x:J}(l:RowK r W x p):Gd r W (cs++[x,H .i64 (t:Int)]) (L++[(p,t)]):=by
 refine⟨by simp[h.1];omega,λj i c e=>?_⟩;by_cases b:j<L.length
 . rw[AJ b]at e;obtain⟨y,a,k,m⟩:=h.2 j i c e;exact⟨y,by rw[AJ (by have:=h.1;omega)];exact a,by rw[AJ (by have:=h.1;omega)];exact k,m⟩
 . rw[AB om]at e;obtain⟨d,f⟩:=ex (j-L.length);rw[f]at e;cases d with
   |succ d=>simp at e
   |zero=>
    simp at e;obtain⟨rfl,rfl⟩:=e;have g:j=L.length:=om
    subst g;refine⟨x,?_,?_,l⟩
    . rw[AB (by have:=h.1;omega),h.1,A3];rfl
    . rw[AB (by have:=h.1;omega),h.1,show L.length*2+1-L.length*2=1 by omega];rfl
def Eg(r:Bool)(base:Nat)(W:F)(v:J)(L:List (List Rat × Nat)):Prop:=
 (v=C none 0 0/\L=[])\/∃g cap a,v=C (some ⟨g,0,none⟩) L.length cap/\base<=g/\W.heap[g]?=some (E a (ER r) (0,0))/\L.length<=cap/\cap<=maxLen/\a.size=cap*2/\Gd r W (a.toList.take (L.length*2)) L
theorem Eg.nil(r:Bool)(base:Nat)(W:F):Eg r base W (C none 0 0) []:=Or.inl ⟨rfl,rfl⟩
theorem Eg.below{r:Bool}{base:Nat}{W W':F}{v:J}{L:List (List Rat × Nat)}(h:Eg r base W v L)(a:Bl W W'):Eg r base W' v L:=by
 rcases h with h|⟨g,cap,e,c,j,b,i,k,d,f⟩
 . exact Or.inl h
 . exact Or.inr ⟨g,cap,e,c,j,(a.block g (Ab.1 b).1).trans b,i,k,d,f.below a⟩
theorem Eg.form{L:List (List Rat × Nat)}(h:Eg r base W v L):∃a c,v=C a L.length c/\L.length<=c/\c<=maxLen:=by
 rcases h with⟨rfl,rfl⟩|⟨g,cap,e,rfl,_,_,d,b,_⟩
 . exact⟨none,0,rfl,DQ,by unfold maxLen;omega⟩
 . exact⟨_,cap,rfl,d,b⟩
theorem Eg.set{L:List (List Rat × Nat)}(h:Eg r base W v L)(b:Boxed W B 25 (C a l c)){u:J}(o:∀v qs,RowK r W v qs->RowK r (W.setCell ⟨B,0,none⟩ u) v qs):Eg r base (W.setCell ⟨B,0,none⟩ u) v L:=by
 rcases h with h|⟨g,cap,j,f,p,d,m,q,i,k⟩
 . exact Or.inl h
 . have n:g≠B:=λe=>by
    subst e;have s:W.heap[g]?=some (E #[C a l c] 25 (0,0)):=b;rw[s]at d;simp only[Ag,Bu]at d;have:=d.2.1;revert this;cases r<;>decide
   exact Or.inr ⟨g,cap,j,f,p,(BD W ⟨B,0,none⟩ u g n).trans d,m,q,i,k.keep o⟩
theorem fA(r:Bool)(base:Nat)(W:F)(v:J)(L:List (List Rat × Nat))(h:Eg r base W v L)(hx:RowK r W (C a l c) p)(hl:L.length+1<=1099511627776)(T:base<=W.heap.size):
 ∃v' z,(Builtin.append_ #[Gt r,Gt r] (Gt r) #[v,C (some ⟨W.heap.size,0,none⟩) 1 1]).run G (W.alloc (E #[C a l c,H .i64 (t:Int)] (ER r)))=.ok v' z/\Eg r base z v' (L++[(p,t)])/\Hg r W z/\(∀n w0,n<=base->Below n w0 W->Below n w0 z)/\W.heap.size<=z.heap.size:=by
 obtain⟨i,M,V,x,Z⟩:=eo r;have R:=ej r;have k:Bl W (W.alloc (E #[C a l c,H .i64 (t:Int)] (ER r))):=Ba W _;obtain⟨b,X⟩:=ex (W.alloc (E #[C a l c,H .i64 (t:Int)] (ER r)));have Qi:b.heap[W.heap.size]?=some (E #[C a l c,H .i64 (t:Int)] (ER r) (0,0)):=by rw[<-X];exact BE W _
 rw[X]at k ⊢;have Ql:=hx.below k;have K:∀j c',[Value.slice a l c,H .i64 (t:Int)][j]?=some c'->b.cell? ((⟨W.heap.size,0,none⟩:Addr).add j)=some c':=λj c' f=>by
  rw[Y1,A8];exact cell_of Qi (by simpa using f)
 have Qg:∀c'∈[Value.slice a l c,H .i64 (t:Int)],c'.oneCell'=true:=λc' f=>by
  simp at f;rcases f with rfl|rfl<;>rfl
 have Qj:(Value.agg zP).cells=zP:=rfl;have Qq:zP.size=2:=rfl;have grown:∀(cs:List J) (w:Nat) (m:Nat),m=L.length+1->Gd r b (cs++[C a l c,H .i64 (t:Int)]) (L++[(p,t)])->cs.length=L.length*2->
  Eg r base (b.drew.alloc (E (cs.toArray++[Value.slice a l c,H .i64 (t:Int)].toArray++Builtin.zeroCells zP (grownCap b m w (ER r)-m)) (ER r))) (C (some ⟨b.heap.size,0,none⟩) m (grownCap b m w (ER r))) (L++[(p,t)]):=by
  intro cs w m hm f y;subst hm;have Qr:=grownCap_ge b (L.length+1) w (ER r);have Qm:=grownCap_le_maxLen b (L.length+1) w (ER r) (by unfold maxLen;omega);have Qo:Bl b (b.drew.alloc (E (cs.toArray++[Value.slice a l c,H .i64 (t:Int)].toArray++Builtin.zeroCells zP (grownCap b (L.length+1) w (ER r)-(L.length+1))) (ER r))):=((BB _ b).drew).alloc (Aa _) _;refine Or.inr ⟨b.heap.size,_,_,by rw[Ai];rfl,As T k.size,BE b.drew _,by rw[Ai];exact Qr,Qm,?_,?_⟩
  . simp only[Array.size_append,An,size_zeroCells,Qq,y,Am,AD];omega
  . have e:(cs.toArray++[Value.slice a l c,H .i64 (t:Int)].toArray++Builtin.zeroCells zP (grownCap b (L.length+1) w (ER r)-(L.length+1))).toList.take ((L++[(p,t)]).length*2)=cs++[C a l c,H .i64 (t:Int)]:=by
     simp only[Array.toList_append];have S:(L++[(p,t)]).length*2=(cs++[Value.slice a l c,H .i64 (t:Int)]).length:=by simp;omega
     rw[S];exact List.take_left
    rw[e];exact f.below Qo
 have fin:∀o,Hg r W (b.drew.alloc o)/\(∀n w0,n<=base->Below n w0 W->Below n w0 (b.drew.alloc o))/\W.heap.size<=(b.drew.alloc o).heap.size:=λo=>by
  have I:Bl W (b.drew.alloc o):=(k.drew).alloc (by exact k.size) _;exact⟨λB A _=>I.block B A,λn w0 u Q=>Q.trans (I.mono (As u T)),I.size⟩
 rcases h with⟨rfl,rfl⟩|⟨g,cap,d,rfl,h2,U,h4,h5,h6,h7⟩
 . have s:=run_append_nil (P:=G) b (Gt r) (Gt r) (ER r) i _ R M V ⟨W.heap.size,0,none⟩ 1 1 [C a l c,H .i64 (t:Int)] (by rw[x];rfl) K om om (by rw[Z];omega);rw[Qj]at s;refine⟨_,_,s,?_,fin _⟩;have:=grown [] 0 1 rfl (by rw[Ao];exact Gd.snoc (cs:=[]) (L:=[]) ⟨rfl,λj p t e=>by simp at e⟩ Ql) rfl;simpa using this
 . have D:b.heap[g]?=some (E d (ER r) (0,0)):=(k.block g (Ab.1 U).1).trans U;have y:(d.toList.take (L.length*2)).length=L.length*2:=by rw[Al];have h0:d.toList.length=d.size:=CH;omega
   have Qk:=(h7.below k).snoc (t:=t) Ql;by_cases Y:L.length+1<=cap
   . have s:=run_append_room (P:=G) b (Gt r) (Gt r) (ER r) i R M g L.length cap d D ⟨W.heap.size,0,none⟩ 1 1 [C a l c,H .i64 (t:Int)] (by rw[x];rfl) K Qg Y (by rw[x];simp;omega);rw[x]at s;obtain⟨q,O⟩:=ex ((d.toList.take (L.length*2)++[Value.slice a l c,H .i64 (t:Int)]++d.toList.drop (L.length*2+[Value.slice a l c,H .i64 (t:Int)].length)).toArray);rw[O]at s;have Qn:=setRow_heap b g d q (ER r) (0,0) D;have Qd:Hg r b (b.setRow g q):=λB A u=>setRow_other b g B q λe=>u d (0,0) (by rw[e];exact D);have Qh:b.heap.size<=(b.setRow g q).heap.size:=(below_setRow (B:=0) (BB _ b) (AK _) q).size;refine⟨_,_,s,?_,λB A u=>?_,λn w0 u Q=>below_setRow (Q.trans (k.mono (As u T))) (As u h2) q,As k.size Qh⟩
     . refine Or.inr ⟨g,cap,q,by rw[Ai];rfl,h2,Qn,by rw[Ai];exact Y,h5,?_,?_⟩
       . rw[<-O];simp only[An,Ai,AV,y,Am,AD];have h0:d.toList.length=d.size:=CH;omega
       . have e:q.toList.take ((L++[(p,t)]).length*2)=d.toList.take (L.length*2)++[C a l c,H .i64 (t:Int)]:=by
          rw[<-O];have S:(L++[(p,t)]).length*2=(d.toList.take (L.length*2)++[Value.slice a l c,H .i64 (t:Int)]).length:=by simp[y];omega
          rw[S];exact List.take_left
         rw[e];exact Qk.keep λ_ _ g=>Qd.rowK g
     . have Qp:B≠g:=λe=>u d (0,0) (by rw[e];exact U);exact(setRow_other b g B q Qp).trans (k.block B A)
   . have ad:∀j c',(d.toList.take (L.length*2))[j]?=some c'->b.cell? ((⟨g,0,none⟩:Addr).add j)=some c':=λj c' f=>by
      rw[Y1,A8];rw[Fq]at f;split at f
      . rw[Ck]at f;exact cell_of D f
      . cases f
     have s:=run_append_grow (P:=G) b (Gt r) (Gt r) (ER r) i _ R M V ⟨g,0,none⟩ L.length cap (d.toList.take (L.length*2)) (by rw[x];exact y) ad ⟨W.heap.size,0,none⟩ 1 1 [C a l c,H .i64 (t:Int)] (by rw[x];rfl) K om om (by rw[Z];exact growslice_fits om om);rw[Qj]at s;exact⟨_,_,s,grown _ cap _ rfl Qk y,fin _⟩
namespace M3
theorem Mem.farP{w W W':F}{bs:List (Option (Nat × Dat))}{r:Bool}(M:Mem w W bs)(a:Hg r W W')(j:Bl w W')(e:∀(i:Nat) B d,bs[i]?=some (some (B,d))->d.ty≠ER r):Mem w W' bs:=by
 refine⟨λi B d h=>?_,M.2.1,j⟩;obtain⟨⟨cs,b,f⟩,c⟩:=M.1 i B d h;exact⟨⟨cs,(a.at b (e i B d h)).trans b,f.keep (λ_ _ _ g=>a.row g) (Or.inr λ_ _ g=>a.rowK g)⟩,c⟩
end M3
