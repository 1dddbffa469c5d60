import Derived.Test.YtakpoihdghihmaaGreatDoorL28
import Derived.RangeFuncNested
import Derived.RangeFuncLeaves
import Derived.RangeFuncBound
import Derived.LoopIn
set_option maxRecDepth 100000
set_option maxHeartbeats 16000000
namespace Go.Proofs.YtakpoihdghihmaaGreatDoor
namespace M3
open Go.RowKit Go.Shelf
def KQ{α:Type}(G:List α→World→Prop):Prop:=∀H W W',G H W→Bl W W'→G H W'
theorem Wf{n m:Nat}{P:Program}{l:Nat}{args:Array Value}{W:World}{R:Ending→World→Prop}(h:YieldAt Fence.wide n P l args W R):YieldAt Fence.wide m P l args W R:=by
 obtain⟨fn,t,a,b,h1,h2⟩:=h;exact⟨fn,t,a,b,h1,h2.1,fun c cs _=>h2.2 c cs (room_wide _)⟩
def W7{α:Type}(l b:Nat)(xs:List α)(Enc:World→Value→α→Prop)(G:List α→World→Prop):Prop:=
 ∀n H x v W,G H W→Enc W v x→H++[x] <+: xs→b≤W.heap.size→YieldAt Fence.wide n Tryz.prog l #[v] W fun e W'=>e=.returned (.bool true)∧G (H++[x]) W'∧W.heap.size≤W'.heap.size∧∀(k:Nat) (o:Obj),b≤k→W.heap[k]?=some o→W'.heap[k]?=some o
def Gp{α:Type}(gf:Nat)(lb:Array Value)(w0:World)(xs:List α)(Enc:World→Value→α→Prop):Prop:=
 ∀(n l:Nat) (G:List α→World→Prop) (W0:World),Bl w0 W0→KQ G→OwnFrom W0.heap.size G→(∀H W,G H W→Bl w0 W)→W7 l W0.heap.size xs Enc G→G [] W0→
  CallsIn Fence.wide n Tryz.prog gf (#[.func (.yield l) #[] #[]]++lb) W0 fun e W'=>(∃v,e=.returned v)∧G xs W'
def Ih{α:Type}(b:Nat)(I:List α→World→Prop)(H:List α)(W:World):Exit→Act→World→Prop
 |.normal,_,W'=>I H W'∧W.heap.size≤W'.heap.size∧∀(k:Nat) (o:Obj),b≤k→W.heap[k]?=some o→W'.heap[k]?=some o
 |_,_,_=>False
theorem NE{α:Type}{g:Operand}{ps:Array Tmp}{assign body:Code}{Q:Exit→Act→World→Prop}{a:Act}{w:World}{n:Nat}
{gf:Nat}{lb:Array Value}{w0:World}{xs:List α}{Enc:World→Value→α→Prop}(hseq:Gp gf lb w0 xs Enc)(hb0:Bl w0 w)
(hg:a.eval g=.func (.func gf) #[] lb)(eg:∀args w,(callFunc gf args).run Tryz.prog w=.ok (.enter gf args) w)(hps:ps.size=1)
(I:List α→World→Prop)(hI:OwnFrom w.heap.size I)(hIb:KQ I)(hIw:∀H W,I H W→Bl w0 W)(h0:I [] w)(Ax:α→Act→World→Prop)(hAx:∀x a',OwnFrom w.heap.size (fun(_:Unit) W=>Ax x a' W))
(hassign:∀(l:Nat) (v:Value) (x:α) (W:World) (K:Act→World→Prop),Enc W v x→Bl w0 W→(∀a' W',Bl W W'→Ax x a' W'→K a' W')→
  assign.wpIn (Fence.wide.inRound l) (n-1-1) Tryz.prog (Exit.then K (fun _ _ _=>False)) { tmps:=(ps.zip #[v]).foldl (fun t (p,v)=>t.setIfInBounds p v) a.tmps,defers:=[] } W)
(hbody:∀(l:Nat) (a':Act) (x:α) (H:List α) (W:World),I H W→Ax x a' W→H++[x] <+: xs→w.heap.size+1<W.heap.size→
  body.wpIn (Fence.wide.inRound l) (n-1-1) Tryz.prog (Ih w.heap.size I (H++[x]) W) a' W)
(hdone:∀(D:Nat) (W:World),w.heap.size≤D→I xs W→W.heap[D]?=some (.deferred (some []))→Q .normal { a with defers:={ target:=.collected D,args:=#[] }::a.defers } W):
 (Code.rangeFunc g ps assign body).wpIn Fence.wide n Tryz.prog Q a w:=by
 refine wpIn_rangeFunc fun fn hfn=>?_;rw[show Fence.wide.round=none from rfl];obtain⟨rc,hrc⟩:∃rc:LoopState→Option Code→Loop,rc=fun st pe=>{ state:=st,pending:=pe,fn,tmps:=a.tmps,params:=ps,assign,body,defers:=w.heap.size }:=⟨_,rfl⟩;obtain⟨V,hV⟩:=ex ((w.alloc (.deferred (some []))).alloc (.loop (rc .ready none)));have vL:V.heap[w.heap.size+1]?=some (.loop (rc .ready none)):=by
  rw[←hV];have:=BF (w.alloc (.deferred (some []))) (.loop (rc .ready none));rwa[BA]at this
 have vD:V.heap[w.heap.size]?=some (.deferred (some [])):=by
  rw[←hV];exact(Bu _ _ _ (by simp)).trans (BF w _)
 have vI:I [] V:=by rw[←hV];exact hI.alloc _ (hI.alloc _ h0)
 have Qo:Bl w V:=by rw[←hV];exact(Ba w _).alloc (by rw[BA];omega) _
 have hVs:V.heap.size=w.heap.size+2:=by rw[←hV];simp
 refine⟨w.heap.size+1,[{ target:=.collected w.heap.size,args:=#[] }],V,{ target:=.fn (.func gf) lb,args:=#[.func (.yield (w.heap.size+1)) #[] #[]] },V,gf,
  #[.func (.yield (w.heap.size+1)) #[] #[]]++lb,V,?_,?_,?_,?_,fun h=>by simp[Fence.wide]at h,?_⟩
 · rw[←hV,hrc];exact run_enterLoop_outer _ _ _ _ _
 · simp only[resolve,hg];simp[go_sem]
 · intro f' hf';simp[Target.leads]at hf';subst hf';exact trivial
 · simp[invoke,go_sem,eg]
 refine(hseq (n-1) (w.heap.size+1)
  (fun H W=>I H W∧W.heap[w.heap.size+1]?=some (.loop (rc .ready none))∧W.heap[w.heap.size]?=some (.deferred (some [])))
  V (Bt hb0 Qo) ?_ ?_ (fun H W h=>hIw H W h.1) ?_ ⟨vI,vL,vD⟩).mono ?_
 · rintro H W W' ⟨hi,hl,hk⟩ hb;exact⟨hIb _ _ _ hi hb,(hb.block _ (Ab.1 hl).1).trans hl,(hb.block _ (Ab.1 hk).1).trans hk⟩
 · rintro H W W' row ⟨hi,hl,hk⟩ hg2 hr;exact⟨hI H W W' row hi hg2 fun r e=>⟨by have:=(hr r e).1;omega,(hr r e).2⟩,(hg2.block _ (Ab.1 hl).1 (fun e=>by have:=(hr _ e.symm).1;omega)).trans hl,(hg2.block _ (Ab.1 hk).1 (fun e=>by have:=(hr _ e.symm).1;omega)).trans hk⟩
 · rintro m H x v W ⟨hi,hl,hk⟩ hx hpre hsz;have Qc:w.heap.size+1<W.heap.size:=(Ab.1 hl).1;have hy:=run_yield (P:=Tryz.prog) (args:=#[v]) hl (by rw[hrc];exact hps.symm);rw[hrc]at hy;refine Wf (n:=n-1-1) ⟨fn,_,assign,body,hy,roundIn_of_wpIn hfn (hassign _ _ x W _ hx (hIw _ _ hi) fun a' W1 hA hax=>?_)⟩;have Qb:W1.heap[w.heap.size+1]?=some (.loop (rc .ready none)):=(hA.block _ Qc).trans hl;have Qk:W1.heap[w.heap.size]?=some (.deferred (some [])):=(hA.block _ (by omega)).trans hk;have Qh:I H W1:=hIb _ _ _ hi hA;refine⟨_,run_beginRound Qb (by rw[hrc]),?_⟩;have Qd:w.heap.size+1<W1.heap.size:=(Ab.1 Qb).1;obtain⟨W2,hW2⟩:=ex (W1.putObj (w.heap.size+1) (.loop { rc .ready none with state:=.busy }));rw[hW2];have Qi:W2.heap[w.heap.size+1]?=some (.loop { rc .ready none with state:=.busy }):=by rw[←hW2];exact Bn Qd
   have Qg:∀k,k≠w.heap.size+1→W2.heap[k]?=W1.heap[k]?:=fun k hk=>by rw[←hW2];exact BQ (by omega)
   have Qj:W2.heap[w.heap.size]?=some (.deferred (some [])):=(Qg _ (by omega)).trans Qk;have Ql:I H W2:=by rw[←hW2];exact hI.putObj _ Qh (by omega) Qb rfl
   have Qf:Ax x a' W2:=by rw[←hW2];exact(hAx x a').putObj (s:=()) _ hax (by omega) Qb rfl
   have hs2:W1.heap.size=W2.heap.size:=by rw[←hW2];simp[World.putObj]
   refine wpIn_mono (hbody _ a' x H W2 Ql Qf hpre (by omega)) fun e a3 W3 hp=>?_;cases e with
   |normal=>
    obtain⟨hi3,hs3,hb3⟩:=hp;have Qe:=hb3 _ _ (by omega) Qi;have hr:=run_endRound (P:=Tryz.prog) none Qe;have Qa:∀k,k≠w.heap.size+1→(W3.putObj (w.heap.size+1) (.loop (rc .ready none))).heap[k]?=W3.heap[k]?:=fun k hk=>BQ (by omega);have Qm:(Instr.endRound (w.heap.size+1) none).run Tryz.prog W3=.ok (.bool true) (W3.putObj (w.heap.size+1) (.loop (rc .ready none))):=by
     rw[hrc]at hr ⊢;exact hr
    refine⟨_,_,Qm,rfl,⟨hI.putObj _ hi3 (by omega) Qe rfl,Bn (Ab.1 Qe).1,(Qa _ (by omega)).trans (hb3 _ _ (Aa _) Qj)⟩,?_,fun k o hk ho=>?_⟩
    · have h5:=hA.size;have h6:(W3.putObj (w.heap.size+1) (.loop (rc .ready none))).heap.size=W3.heap.size:=by simp[World.putObj]
      omega
    · have Qn:k<W.heap.size:=(Ab.1 ho).1;exact(Qa k (by omega)).trans (hb3 k o (by omega) ((Qg k (by omega)).trans ((hA.block k Qn).trans ho)))
   |ret=>exact hp.elim
   |exit id=>exact hp.elim
   |goto t=>exact hp.elim
   |panic ch=>exact hp.elim
   |outgrown=>exact hp.elim
 · rintro e W2 ⟨⟨v,rfl⟩,hi,hl,hk⟩;exact⟨none,_,by have:=run_endLoop (P:=Tryz.prog) hl (by rw[hrc];simp);rw[hrc]at this;exact this,hdone _ _ (Aa _) (hI.putObj _ hi (by omega) hl rfl) ((BQ (by omega)).trans hk)⟩
end M3
def Dq(s:Nat × Int)(a:Int):Nat × Int:=if a=0 then s else(if a=-s.2 then s.1+1 else s.1,a)
def F1(l:List Int):Nat:=(l.foldl Dq (0,0)).1
def Dk(q:Rat):Int:=q.num.sign
theorem NF{q:Rat}:Dk q=0↔q=0:=by
 unfold Dk;rw[Int.sign_eq_zero_iff_zero];exact FG
theorem W8{q:Rat}:Dk q=1↔0<q:=by
 unfold Dk;rw[Int.sign_eq_one_iff_pos,Rat.lt_iff];simp
theorem ZB{q:Rat}:Dk q=-1↔q<0:=by
 unfold Dk;rw[Int.sign_eq_neg_one_iff_neg,Rat.lt_iff];simp
theorem KR(q:Rat):-1≤Dk q∧Dk q≤1:=by
 unfold Dk;rcases Int.lt_trichotomy q.num 0 with h|h|h
 · rw[Int.sign_eq_neg_one_of_neg h];omega
 · rw[h];decide
 · rw[Int.sign_eq_one_of_pos h];omega
theorem Pw(q:Rat):(q<0∧Dk q=-1)∨(q=0∧Dk q=0)∨(0<q∧Dk q=1):=by
 rcases(show q<0∨q=0∨0<q by grind)with h|h|h
 · exact Or.inl ⟨h,ZB.2 h⟩
 · exact Or.inr (Or.inl ⟨h,NF.2 h⟩)
 · exact Or.inr (Or.inr ⟨h,W8.2 h⟩)
theorem Px:∀(l:List Int) (s:Nat × Int),(∀a∈l,-1≤a∧a≤1)→(-1≤s.2∧s.2≤1)→(-1≤(l.foldl Dq s).2∧(l.foldl Dq s).2≤1)∧(l.foldl Dq s).1≤s.1+l.length:=by
 intro l;induction l with
 |nil=>intro s _ h;exact⟨h,Aa _⟩
 |cons a l ih=>
  intro s hl hs;have ha:=hl a CE;have h1:-1≤(Dq s a).2∧(Dq s a).2≤1:=by
   unfold Dq;split
   · exact hs
   · exact ha
  have h2:(Dq s a).1≤s.1+1:=by
   unfold Dq;split
   · omega
   · show(if a=-s.2 then s.1+1 else s.1)≤s.1+1;split<;>omega
  obtain⟨h3,h4⟩:=ih (Dq s a) (fun b hb=>hl b (List.mem_cons_of_mem _ hb)) h1;refine⟨h3,?_⟩;simp only[List.foldl_cons,Ad];omega
theorem Py{a b:Rat}(hb:b≠0):(a*b<0↔Dk b=-Dk a):=by
 rcases Pw a with⟨h1,e1⟩|⟨h1,e1⟩|⟨h1,e1⟩<;>rcases Pw b with⟨h2,e2⟩|⟨h2,e2⟩|⟨h2,e2⟩<;>rw[e1,e2]
 · have:=Rat.mul_pos (a:=-a) (b:=-b) (by grind) (by grind);constructor
   · intro h;grind
   · intro h;omega
 · exact absurd h2 hb
 · have:=Rat.mul_pos (a:=-a) (b:=b) (by grind) h2;constructor
   · intro _;rfl
   · intro _;grind
 · rw[h1];constructor
   · intro h;grind
   · intro h;omega
 · exact absurd h2 hb
 · rw[h1];constructor
   · intro h;grind
   · intro h;omega
 · have:=Rat.mul_pos (a:=a) (b:=-b) h1 (by grind);constructor
   · intro _;rfl
   · intro _;grind
 · exact absurd h2 hb
 · have:=Rat.mul_pos h1 h2;constructor
   · intro h;grind
   · intro h;omega
theorem ZC:∀(l:List Rat) (n:Nat) (a:Rat),((l.map Dk).foldl Dq (n,Dk a)).1=n+EI a l:=by
 intro l;induction l with
 |nil=>intro n a;rfl
 |cons b l ih=>
  intro n a;rw[List.map_cons,List.foldl_cons];by_cases hb:b=0
  · have e:Dq (n,Dk a) (Dk b)=(n,Dk a):=by unfold Dq;rw[BH (NF.2 hb)]
    rw[e,ih,EI,BH hb]
  · have e:Dq (n,Dk a) (Dk b)=(if a*b<0 then n+1 else n,Dk b):=by
     unfold Dq;rw[BE (fun e=>hb (NF.1 e))];by_cases h:a*b<0
     · rw[BH h,BH ((Py hb).1 h)]
     · rw[BE h,BE (fun e=>h ((Py hb).2 e))]
    rw[e,ih,XI hb];split<;>omega
theorem LG(l:List Rat):F1 (l.map Dk)=DR l:=by
 have:=ZC l 0 0;rw[A8]at this;exact this
theorem ZD(l:List Int)(a:Int):(l++[a]).foldl Dq (0,0)=Dq (l.foldl Dq (0,0)) a:=by rw[List.foldl_append];rfl
theorem NG(q:Rat):D5 q 0=Dk q:=by
 have e:D5 q 0=if q.num<0 then -1 else if 0<q.num then 1 else 0:=by
  unfold D5 XR;simp
 rw[e];unfold Dk;rcases Int.lt_trichotomy q.num 0 with h|h|h
 · rw[BH h,Int.sign_eq_neg_one_of_neg h]
 · rw[h];rfl
 · rw[BE (by omega),BH h,Int.sign_eq_one_of_pos h]
def Ef(p:List Rat):Int:=Dk (cf p (p.length-1))
def GW(p:List Rat):Int:=if p.length%2=0 then -Ef p else Ef p
theorem ZE(q:Rat):Dk (-q)=-Dk q:=by
 unfold Dk;rw[Rat.neg_num,Int.sign_neg]
namespace M3
open Go.RowKit Go.Shelf
attribute [local go_sem] Oper.semAt_some
def NH(_:World)(v:Value)(s:Int):Prop:=v=.int .i64 s
def Ey(w:World)(H:List Int)(W:World):Prop:=
 Boxed W w.heap.size 3 (.int .i64 ((H.foldl Dq (0,0)).1:Int))∧Boxed W (w.heap.size+1) 3 (.int .i64 (H.foldl Dq (0,0)).2)∧Bl w W
theorem Ey.bel{w:World}{H:List Int}{W W':World}(h:Ey w H W)(hb:Bl W W'):Ey w H W':=⟨boxed_below h.1 hb,boxed_below h.2.1 hb,Bt h.2.2 hb⟩
theorem Ey.own{w:World}{B:Nat}(hB:w.heap.size≤B):OwnFrom B (Ey w):=fun _ _ _ _ h hg hr=>
 ⟨Yd hg (fun r e=>(hr r e).2) h.1,Yd hg (fun r e=>(hr r e).2) h.2.1,h.2.2.grown hg h.2.2.size (fun k e=>An hB (hr k e).1)⟩
theorem Pz{gf:Nat}{lb:Array Value}(w:World)(xs:List Int)(hseq:Gp gf lb w xs NH)(eg:∀args w,(callFunc gf args).run Tryz.prog w=.ok (.enter gf args) w)(hx:∀s∈xs,-1≤s∧s≤1)(hl:xs.length≤1000000000):
 Calls Tryz.prog 54 #[.func (.func gf) #[] lb] w fun e w'=>e=.returned (.int .i64 (F1 xs:Int))∧Bl w w':=by
 obtain⟨Qc,HX,HL⟩:=Dg hseq hx hl;obtain⟨W1,hW1⟩:=ex ((w.alloc (.cells #[.int .i64 0] 3)).alloc (.cells #[.int .i64 0] 3));have Qd:Bl w W1:=by rw[←hW1];exact(Ba w _).alloc (by rw[BA];omega) _
 have Ql:Ey w [] W1:=by
  rw[←hW1];refine⟨(BI w 3 (.int .i64 0)).alloc _,?_,by rw[hW1];exact Qd⟩;have:=BI (w.alloc (.cells #[.int .i64 0] 3)) 3 (.int .i64 0);rwa[BA]at this
 have Qh:W1.heap.size=w.heap.size+2:=by rw[←hW1];simp
 obtain⟨Qf,Qg,Qa,Qk⟩:=Dt Ql Qd Qh hW1;clear hseq hx hl Qd Ql Qh hW1;refine(BJ (n:=3)).1 ?_;refine BU Tryz.func54 rfl trivial ?_ rfl;simp only[Tryz.ntmps54,Ap,Ad,Au,Nat.reduceAdd,Nat.reduceSub,As,At,AC,Aw,Ao,AA];gi_wp2_with fail
 rw[Qk.o];clear Qk;refine NE Qc.o Qg.o rfl eg rfl (Ey w) (Ey.own (by have:=Qa.o;omega)) (fun _ _ _ h hb=>h.bel hb) (fun _ _ h=>h.2.2) Qf.o
  (fun s a _=>a={ tmps:=#[.func (.func gf) #[] lb,undef,.int .i64 0,.pointer (some ⟨w.heap.size,0,none⟩),.pointer (some ⟨w.heap.size+1,0,none⟩),.int .i64 s,.func (.func gf) #[] lb,.int .i64 s,undef,undef,undef,undef,undef,undef,undef,undef,undef,undef],defers:=[] }) (fun _ _ _ _ _ _ h _ _=>h) ?assign ?body ?done
 case assign=>
  intro l v s W K he hB hK;obtain rfl:v=.int .i64 s:=he;have HK:=Ja (hK _ W (BG _ W) rfl);clear hK hB;gi_wp2;exact HK.o
 case body=>
  intro l a' s H W hI hax hpre hsz;subst hax;have hs:=HX.o s (hpre.subset (by simp));have Qb:=Px H (0,0) (fun a ha=>HX.o a (hpre.subset (by simp[ha]))) (by decide);have Qm:H.length≤1000000000:=by
   have h1:=hpre.length_le;have h2:=HL.o;simp only[Ay,Ad,Au]at h1;omega
  obtain⟨h1,h2,h3⟩:=hI;obtain⟨st,hst2⟩:=ex (H.foldl Dq (0,0));have Qi:(H++[s]).foldl Dq (0,0)=Dq st s:=by rw[ZD,hst2]
  rw[hst2]at h1 h2 Qb;obtain⟨n,l2⟩:=st;simp only at h1 h2 Qb;obtain⟨⟨hb1,hb2⟩,hb3⟩:=Qb;have hn:n≤1000000000:=by omega
  have e3:=h1.cell;have e4:=h2.cell;have f3:=h1.frozen;have f4:=h2.frozen;obtain⟨HI,Qj,Qe⟩:=Dg (And.intro h1 (And.intro h2 h3)) (show w.heap.size+2≤W1.heap.size by rw[Qa.o];exact Aa _) Qi;clear h1 h2 h3 hpre hsz hb3 Qm hst2 Qi HX HL Qf Qg Qa Qc;by_cases h0:s=0
  · have HP:=Ja (show ∀act,Ih W1.heap.size (Ey w) (H++[s]) W .normal act W from fun _=>⟨by
     have e:Dq (n,l2) s=(n,l2):=by unfold Dq;rw[BH h0]
     unfold Ey;rw[Qe.o,e];exact HI.o,Aa _,fun _ _ _ h=>h⟩)
    subst h0;gi_wp2;exact HP.o _
  · by_cases h1:s=-l2
    · subst h1;have HP:=Ja (show ∀act,Ih W1.heap.size (Ey w) (H++[-l2]) W .normal act ((W.setCell ⟨w.heap.size,0,none⟩ (.int .i64 ((n+1:Nat):Int))).setCell ⟨w.heap.size+1,0,none⟩ (.int .i64 (-l2)))from fun _=>⟨by
       have e:Dq (n,l2) (-l2)=(n+1,-l2):=by unfold Dq;rw[BE h0,BH rfl]
       unfold Ey;rw[Qe.o,e];exact⟨Boxed.other (HI.o.1.set _) (by omega) _,(Boxed.other HI.o.2.1 (by omega) _).set _,(HI.o.2.2.setCell (p:=⟨w.heap.size,0,none⟩) (Aa _) _).setCell (p:=⟨w.heap.size+1,0,none⟩) (by show w.heap.size≤w.heap.size+1;omega) _⟩,by rw[World.size_setCell,World.size_setCell];exact Aa _,fun k o hk h=>by
       have:=Qj.o;exact(BC _ ⟨w.heap.size+1,0,none⟩ _ k (by show k≠w.heap.size+1;omega)).trans ((BC _ ⟨w.heap.size,0,none⟩ _ k (by show k≠w.heap.size;omega)).trans h)⟩)
      have Qn:=(Boxed.other HI.o.2.1 (show w.heap.size+1≠w.heap.size by omega) (.int .i64 ((n+1:Nat):Int))).frozen;have Qo:=(Boxed.other HI.o.2.1 (show w.heap.size+1≠w.heap.size by omega) (.int .i64 ((n+1:Nat):Int))).cell;push_cast at HP Qn Qo
      gi_wp2;exact HP.o _
    · have HP:=Ja (show ∀act,Ih W1.heap.size (Ey w) (H++[s]) W .normal act (W.setCell ⟨w.heap.size+1,0,none⟩ (.int .i64 s))from fun _=>⟨by
       have e:Dq (n,l2) s=(n,s):=by unfold Dq;rw[BE h0,BE h1]
       unfold Ey;rw[Qe.o,e];exact⟨Boxed.other HI.o.1 (by omega) _,HI.o.2.1.set _,HI.o.2.2.setCell (p:=⟨w.heap.size+1,0,none⟩) (by show w.heap.size≤w.heap.size+1;omega) _⟩,by rw[World.size_setCell];exact Aa _,fun k o hk h=>by
       have:=Qj.o;exact(BC _ ⟨w.heap.size+1,0,none⟩ _ k (by show k≠w.heap.size+1;omega)).trans h⟩)
      gi_wp2;exact HP.o _
 case done=>
  intro D W hD hI hK;have e3:=hI.1.cell;obtain⟨HK,HI,HD⟩:=Dg hK hI.2.2 (show w.heap.size≤D by have:=Qa.o;omega);clear hI hD hK Qc HX HL Qf Qg;gi_wp2_with fail
  refine⟨by simp,.inl ⟨_,_,rfl,Bb HK.o,?_⟩⟩;exact⟨.int .i64 (F1 xs:Int),by simp[results,Tryz.results54,go_sem];rfl,rfl,HI.o.trans (DH (w:=w) (Aa _) _ D _ _ HD.o HK.o rfl rfl)⟩
def LH(W:World)(v:Value)(p:List Rat):Prop:=Je W v p
def NI(W:World)(v:Value)(q:Rat):Prop:=Jg W v q
def Ii{α:Type}(pf:Nat)(pb:Array Value)(w0:World)(xs:List α)(Enc:World→Value→α→Prop)(f:α→Int):Prop:=
 ∀W v x,Bl w0 W→Enc W v x→x∈xs→Calls Tryz.prog pf (#[v]++pb) W fun e W'=>e=.returned (.int .i64 (f x))∧Bl W W'
def Eg{α:Type}(W0:World)(l:Nat)(f:α→Int)(G:List Int→World→Prop)(ty:TypeId)(H:List α)(W:World):Prop:=G (H.map f) W∧Boxed W W0.heap.size ty (.func (.yield l) #[] #[])
theorem Eg.own{α:Type}{W0:World}{l:Nat}{f:α→Int}{G:List Int→World→Prop}{ty:TypeId}(hG:OwnFrom W0.heap.size G){B:Nat}(hB:W0.heap.size≤B):OwnFrom B (Eg W0 l f G ty):=fun _ W W' row h hg hr=>
 ⟨hG _ W W' row h.1 hg (fun r e=>⟨An hB (hr r e).1,(hr r e).2⟩),Yd hg (fun r e=>(hr r e).2) h.2⟩
theorem Eg.bel{α:Type}{W0:World}{l:Nat}{f:α→Int}{G:List Int→World→Prop}{ty:TypeId}(hG:KQ G):KQ (Eg W0 l f G ty):=fun _ _ _ h hb=>⟨hG _ _ _ h.1 hb,boxed_below h.2 hb⟩
def Hx{α:Type}(W0 W:World)(l:Nat)(f:α→Int)(G:List Int→World→Prop)(ty:TypeId)(H:List α)(V:World):Prop:=Eg W0 l f G ty H V∧W.heap.size≤V.heap.size∧∀(k:Nat) (o:Obj),W0.heap.size≤k→W.heap[k]?=some o→V.heap[k]?=some o
theorem Hx.bel{α:Type}{W0 W:World}{l:Nat}{f:α→Int}{G:List Int→World→Prop}{ty:TypeId}{H:List α}{V V':World}(hG:KQ G)(h:Hx W0 W l f G ty H V)(hb:Bl V V'):Hx W0 W l f G ty H V':=
 ⟨Eg.bel hG _ _ _ h.1 hb,An h.2.1 hb.size,fun k o hk ho=>by have:=h.2.2 k o hk ho;exact(hb.block k (Ab.1 this).1).trans this⟩
theorem ZF{W W':World}{row:Option Nat}(hg:W.grownBy W' row)(hr:∀r,row=some r→∃o:Obj,W.heap[r]?=some o∧o.isCells=false){v:Value}{ps:List Rat}(h:Je W v ps):Je W' v ps:=by
 obtain⟨u,e,h⟩:=h;exact⟨u,e,Xq hg hr h⟩
def LI(a1:Nat→Value→Act)(B:Nat)(x:List Rat)(a:Act)(W:World):Prop:=∃b c l d,B≤b∧Boxed W b 25 (.slice c l d)∧Je W (.agg #[.slice c l d]) x∧a=a1 b (.slice c l d)
theorem LI.own{a1:Nat→Value→Act}{B B':Nat}(x:List Rat)(a:Act):OwnFrom B' (fun(_:Unit) W=>LI a1 B x a W):=fun _ _ _ _ h hg hr=>by
 obtain⟨b,c,l,d,h1,h2,h3,h4⟩:=h;exact⟨b,c,l,d,h1,Yd hg (fun r e=>(hr r e).2) h2,ZF hg (fun r e=>(hr r e).2) h3,h4⟩
theorem ZG{gf pf:Nat}{lb pb:Array Value}(w0:World)(xs:List (List Rat))(f:List Rat→Int)(Bth Bf:Nat)(hseq:Gp gf lb w0 xs LH)(eg:∀args w,(callFunc gf args).run Tryz.prog w=.ok (.enter gf args) w)(ep:∀args w,(callFunc pf args).run Tryz.prog w=.ok (.enter pf args) w)
(hbt:Boxed w0 Bth 125 (.func (.func gf) #[] lb))(hbf:Boxed w0 Bf 39 (.func (.func pf) #[] pb))(hp:Ii pf pb w0 xs LH f):
 Gp 154 #[.pointer (some ⟨Bth,0,none⟩),.pointer (some ⟨Bf,0,none⟩)] w0 (xs.map f) NH:=by
 intro n l G W0 hW0 hGb hGo hGw hY hG0;have Qq:Tryz.prog.follows .mixedOrders=true:=by kernel_rfl
 obtain⟨W1,hW1⟩:=ex (W0.alloc (.cells #[.func (.yield l) #[] #[]] 147));have Qe:Bl W0 W1:=by rw[←hW1];exact Ba W0 _
 have Qj:W1.heap.size=W0.heap.size+1:=by rw[←hW1];simp
 have Qh:Eg W0 l f G 147 [] W1:=⟨hGb _ _ _ hG0 Qe,by rw[←hW1];exact BI W0 _ _⟩;have Qd:Bl w0 W1:=Bt hW0 Qe;obtain⟨Qo,HP,Qn,Qc,Qf,Qi,Qm,Qk⟩:=GK hseq hp hGb hGo hGw hY Qh Qd;obtain⟨Qb,Ql,Qg⟩:=Dg Qj hW1 hbf;have c1:W1.cell? ⟨Bth,0,none⟩=some (.func (.func gf) #[] lb):=(boxed_below hbt (Qd.mono (by exact Aa _))).cell;rw[←hW1]at c1;clear hseq hp hGb hGo hGw hY Qh Qd Qj hW1 Qe hW0 hG0 hbt hbf;refine BU Tryz.func154 rfl trivial ?_ rfl;simp only[Tryz.ntmps154,Ap,Ad,Au,Nat.reduceAdd,Nat.reduceSub,As,At,AC,Aw,Ao,AA];gi_wp2_with fail
 rw[Ql.o];clear Ql c1;refine NE Qo.o Qk.o rfl eg rfl (Eg W0 l f G 147) (Eg.own Qc.o (by have:=Qb.o;omega)) (Eg.bel Qn.o) (fun _ _ h=>Qf.o _ _ h.1) Qm.o
  (LI (fun b v=>{ tmps:=#[.func (.yield l) #[] #[],.pointer (some ⟨Bth,0,none⟩),.pointer (some ⟨Bf,0,none⟩),.pointer (some ⟨W0.heap.size,0,none⟩),.pointer (some ⟨b,0,none⟩),.func (.func gf) #[] lb,.agg #[v],undef,undef,undef,undef,undef,undef],defers:=[] }) w0.heap.size) (fun x a=>LI.own x a) ?assign ?body ?done
 case assign=>
  intro l1 v x W K he hB hK;obtain⟨a,l2,c,rfl⟩:=Je.form (show Je W v x from he);have hA:Bl W (W.alloc (.cells #[.slice a l2 c] 25)):=Ba W _;have HK:=Ja (hK _ (W.alloc (.cells #[.slice a l2 c] 25)) hA ⟨W.heap.size,a,l2,c,hB.size,BI W _ _,Je.below he hA,rfl⟩);clear hK hB he hA;gi_wp2;exact HK.o
 case body=>
  rintro l1 a' x H W hI ⟨b,a,l2,c,hbw,hbx,hx,rfl⟩ hpre hsz;have hW:=Qf.o _ _ hI.1;obtain⟨Qs,Qw,Qp,Qr,Qt,HN,Qu⟩:=IU (fun(V:World) (hB:Bl W V)=>(boxed_below hI.2 hB).cell) (fun(V:World) (hB:Bl W V)=>(boxed_below (boxed_below Qg.o hW) hB).cell) (fun(V:World) (hB:Bl W V)=>(boxed_below hbx hB).cell) (fun(V:World) (hB:Bl W V)=>HP.o V _ x (Bt hW hB) (hx.below hB) (hpre.subset (by simp))) (fun(n9:Nat) (V:World) (hB:Bl W V)=>Qi.o n9 (H.map f) (f x) (.int .i64 (f x)) V (Qn.o _ _ _ hI.1 hB) rfl (by have:=hpre.map f;rwa[List.map_append]at this) (An (by have:=Qb.o;omega) hB.size)) (fun(V V':World) (hB:Bl W V) (h:G (H.map f++[f x]) V'∧V.heap.size≤V'.heap.size∧∀(k:Nat) (o:Obj),W0.heap.size≤k→V.heap[k]?=some o→V'.heap[k]?=some o)=>show Hx W0 W l f G 147 (H++[x]) V' from⟨⟨by rw[List.map_append];exact h.1,h.2.2 _ _ (Aa _) (boxed_below hI.2 hB)⟩,An hB.size h.2.1,fun k o hk ho=>h.2.2 k o hk ((hB.block k (Ab.1 ho).1).trans ho)⟩) (show W0.heap.size≤W1.heap.size by have:=Qb.o;omega);clear hI hbw hbx hx hpre hsz hW Qo HP Qc Qf Qi Qm Qk Qb Qg;dsimp only;gi_wp2_with fail
  refine JM Qq [[],[],[],[1,2],[0,3,3],[4]] (by kernel_rfl) (by decide)
   (fun D act V=>∃(td te tg ta tb tc:Value),act={ tmps:=#[.func (.yield l) #[] #[],.pointer (some ⟨Bth,0,none⟩),.pointer (some ⟨Bf,0,none⟩),.pointer (some ⟨W0.heap.size,0,none⟩),.pointer (some ⟨b,0,none⟩),.func (.func gf) #[] lb,.agg #[.slice a l2 c],td,te,tg,ta,tb,tc],defers:=[] }∧Hid ((D 0=true→td=.func (.yield l) #[] #[])∧(D 1=true→te=.func (.func pf) #[] pb)∧(D 2=true→tg=.agg #[.slice a l2 c])∧(D 3=true→ta=.int .i64 (f x))∧(D 4=true→tb=.bool true)∧(D 5=true→tc=.bool false))∧Hid ((D 4=false→Bl W V)∧(D 4=true→Hx W0 W l f G 147 (H++[x]) V)))
   ⟨_,_,_,_,_,_,rfl,Ja (by simp),Ja ⟨fun _=>(BG _ W).drew,by simp⟩⟩ ?step ?fin
  case step=>
   rintro D act V i ds hcl hi hds hDi ⟨td,te,tg,ta,tb,tc,rfl,GG,SS⟩;have hi6:i<6:=(Ae.1 hi).1;have Qa:i<5→D 4=false:=fun hi9=>by
    cases h:D 4 with
    |false=>rfl
    |true=>
     exfalso
     have h3:=hcl 4 _ rfl h 3 (by simp);have h0:=hcl 4 _ rfl h 0 (by simp);have h1:=hcl 3 _ rfl h3 1 (by simp);have h2:=hcl 3 _ rfl h3 2 (by simp);obtain rfl|rfl|rfl|rfl|rfl:=Iv i (by omega)
     all_goals simp_all
   obtain rfl|rfl|rfl|rfl|rfl|rfl:=Iw i (by omega)
   all_goals
    simp only[Ai,Ag,Ak]at hi;subst hi
   · have hB:=SS.o.1 (Qa (by omega));have e0:=Qs.o V hB;clear hds;refine DY ?_;exact⟨(Di GG),Ja ⟨fun h=>SS.o.1 (by simpa using h),fun h=>SS.o.2 (by simpa using h)⟩⟩
   · have hB:=SS.o.1 (Qa (by omega));have e0:=Qw.o V hB;clear hds;refine DY ?_;exact⟨(Dm GG),Ja ⟨fun h=>SS.o.1 (by simpa using h),fun h=>SS.o.2 (by simpa using h)⟩⟩
   · have hB:=SS.o.1 (Qa (by omega));have e0:=Qp.o V hB;clear hds;refine DY ?_;exact⟨(De GG),Ja ⟨fun h=>SS.o.1 (by simpa using h),fun h=>SS.o.2 (by simpa using h)⟩⟩
   · have hB:=SS.o.1 (Qa (by omega));have Qv:=Qa (by omega);obtain rfl:=GG.o.2.1 (hds 1 (by simp));obtain rfl:=GG.o.2.2.1 (hds 2 (by simp));clear hds Qa;refine BO rfl fun K hK=>?_;go_simp;refine⟨trivial,fun h=>by simp[Fence.wide]at h,(Bj l1 ((BJ (n:=_)).2 (Qr.o V hB))).mono ?_⟩;rintro e w5 ⟨rfl,hb5⟩;exact hK _ _ ⟨_,_,_,_,_,_,rfl,Ja ⟨GG.o.1,fun _=>rfl,fun _=>rfl,fun _=>rfl,GG.o.2.2.2.2.1,GG.o.2.2.2.2.2⟩,Ja ⟨fun _=>Bt hB hb5,fun h=>by simp[Qv]at h⟩⟩
   · have hB:=SS.o.1 hDi;obtain rfl:=GG.o.1 (hds 0 (by simp));obtain rfl:=GG.o.2.2.2.1 (hds 3 (by simp));clear hds Qa;obtain⟨fn,tm,asg,bd,hy,hRd⟩:=Qt.o (n-1-1-1) V hB;refine BO rfl fun K hK=>?_;go_simp;refine⟨fun h=>by simp[Fence.wide]at h,RoundIn.mono hRd ?_⟩;rintro e w5 ⟨rfl,h5⟩;exact hK _ _ ⟨_,_,_,_,_,_,rfl,Ja ⟨fun _=>rfl,GG.o.2.1,GG.o.2.2.1,fun _=>rfl,fun _=>rfl,GG.o.2.2.2.2.2⟩,Ja ⟨fun h=>by simp at h,fun _=>HN.o V w5 hB h5⟩⟩
   · obtain rfl:=GG.o.2.2.2.2.1 (hds 4 (by simp));clear hds Qa;refine DY ?_;exact⟨Ja ⟨GG.o.1,GG.o.2.1,GG.o.2.2.1,GG.o.2.2.2.1,fun _=>rfl,fun _=>rfl⟩,Ja ⟨fun h=>SS.o.1 (by simpa using h),fun h=>SS.o.2 (by simpa using h)⟩⟩
  case fin=>
   rintro D act V hDD ⟨td,te,tg,ta,tb,tc,rfl,GG,SS⟩;obtain rfl:=GG.o.2.2.2.2.2 (hDD 5 (by decide));have HE:=Ja (show ∀act,Ih W1.heap.size (Eg W0 l f G 147) (H++[x]) W .normal act V from fun _=>by
    have h:=SS.o.2 (hDD 4 (by decide));exact⟨h.1,h.2.1,fun k o hk ho=>h.2.2 k o (An Qu.o hk) ho⟩)
   clear GG SS hDD;gi_wp2;exact HE.o _
 case done=>
  intro D W hD hI hK;obtain⟨HK,HI,HD⟩:=Dg hK hI (show W0.heap.size≤D by have:=Qb.o;omega);clear hI hD hK;gi_wp2_with fail
  refine⟨by simp,.inl ⟨_,_,rfl,Bb HK.o,?_⟩⟩;refine⟨_,results_none rfl _ _ _,⟨_,rfl⟩,?_⟩;exact Qc.o.putObj _ HI.o.1 HD.o HK.o rfl
theorem ZH{W W':World}{row:Option Nat}(hg:W.grownBy W' row)(hr:∀r,row=some r→∃o:Obj,W.heap[r]?=some o∧o.isCells=false){v:Value}{q:Rat}(h:Jg W v q):Jg W' v q:=D9.keep (r:=true) h fun _ _ _ h=>LE hg hr h
def LJ(a1:Nat→Value→Act)(B:Nat)(x:Rat)(a:Act)(W:World):Prop:=∃b s1 t1 a1' a2' l1 c1 l2 c2,B≤b∧JF W b 37 (.bool s1) (.slice a1' l1 c1) (.bool t1) (.slice a2' l2 c2)∧Jg W (.agg #[.bool s1,.slice a1' l1 c1,.bool t1,.slice a2' l2 c2]) x∧a=a1 b (.agg #[.bool s1,.slice a1' l1 c1,.bool t1,.slice a2' l2 c2])
theorem LJ.own{a1:Nat→Value→Act}{B B':Nat}(x:Rat)(a:Act):OwnFrom B' (fun(_:Unit) W=>LJ a1 B x a W):=fun _ _ _ _ h hg hr=>by
 obtain⟨b,s1,t1,x1,x2,l1,c1,l2,c2,h1,h2,h3,h4⟩:=h;exact⟨b,s1,t1,x1,x2,l1,c1,l2,c2,h1,Yd hg (fun r e=>(hr r e).2) h2,ZH hg (fun r e=>(hr r e).2) h3,h4⟩
theorem ZI{gf pf:Nat}{lb pb:Array Value}(w0:World)(xs:List Rat)(f:Rat→Int)(Bth Bf:Nat)(hseq:Gp gf lb w0 xs NI)(eg:∀args w,(callFunc gf args).run Tryz.prog w=.ok (.enter gf args) w)(ep:∀args w,(callFunc pf args).run Tryz.prog w=.ok (.enter pf args) w)
(hbt:Boxed w0 Bth 96 (.func (.func gf) #[] lb))(hbf:Boxed w0 Bf 61 (.func (.func pf) #[] pb))(hp:Ii pf pb w0 xs NI f):
 Gp 116 #[.pointer (some ⟨Bth,0,none⟩),.pointer (some ⟨Bf,0,none⟩)] w0 (xs.map f) NH:=by
 intro n l G W0 hW0 hGb hGo hGw hY hG0;have Qq:Tryz.prog.follows .mixedOrders=true:=by kernel_rfl
 obtain⟨W1,hW1⟩:=ex (W0.alloc (.cells #[.func (.yield l) #[] #[]] 147));have Qe:Bl W0 W1:=by rw[←hW1];exact Ba W0 _
 have Qj:W1.heap.size=W0.heap.size+1:=by rw[←hW1];simp
 have Qh:Eg W0 l f G 147 [] W1:=⟨hGb _ _ _ hG0 Qe,by rw[←hW1];exact BI W0 _ _⟩;have Qd:Bl w0 W1:=Bt hW0 Qe;obtain⟨Qo,HP,Qn,Qc,Qf,Qi,Qm,Qk⟩:=GK hseq hp hGb hGo hGw hY Qh Qd;obtain⟨Qb,Ql,Qg⟩:=Dg Qj hW1 hbf;have c1:W1.cell? ⟨Bth,0,none⟩=some (.func (.func gf) #[] lb):=(boxed_below hbt (Qd.mono (by exact Aa _))).cell;rw[←hW1]at c1;clear hseq hp hGb hGo hGw hY Qh Qd Qj hW1 Qe hW0 hG0 hbt hbf;refine BU Tryz.func116 rfl trivial ?_ rfl;simp only[Tryz.ntmps116,Ap,Ad,Au,Nat.reduceAdd,Nat.reduceSub,As,At,AC,Aw,Ao,AA];gi_wp2_with fail
 rw[Ql.o];clear Ql c1;refine NE Qo.o Qk.o rfl eg rfl (Eg W0 l f G 147) (Eg.own Qc.o (by have:=Qb.o;omega)) (Eg.bel Qn.o) (fun _ _ h=>Qf.o _ _ h.1) Qm.o
  (LJ (fun b v=>{ tmps:=#[.func (.yield l) #[] #[],.pointer (some ⟨Bth,0,none⟩),.pointer (some ⟨Bf,0,none⟩),.pointer (some ⟨W0.heap.size,0,none⟩),.pointer (some ⟨b,0,none⟩),.func (.func gf) #[] lb,v,undef,undef,undef,undef,undef,undef],defers:=[] }) w0.heap.size) (fun x a=>LJ.own x a) ?assign ?body ?done
 case assign=>
  intro l1 v x W K he hB hK;obtain⟨s1,a,l2,c,t1,a2,k2,d2,rfl⟩:=Jg.form (show Jg W v x from he);have hA:Bl W (W.alloc (.cells #[.bool s1,.slice a l2 c,.bool t1,.slice a2 k2 d2] 37)):=Ba W _;have HK:=Ja (hK _ (W.alloc (.cells #[.bool s1,.slice a l2 c,.bool t1,.slice a2 k2 d2] 37)) hA ⟨W.heap.size,s1,t1,a,a2,l2,c,k2,d2,hB.size,JF.new W _ _ _ _ _,Jg.below he hA,rfl⟩);clear hK hB he hA;gi_wp2;exact HK.o
 case body=>
  rintro l1 a' x H W hI ⟨b,s1,t1,a,a2,l2,c,k2,d2,hbw,hbx,hx,rfl⟩ hpre hsz;have hW:=Qf.o _ _ hI.1;obtain⟨Qs,Qw,Qp,Qr,Qt,HN,Qu⟩:=IU (fun(V:World) (hB:Bl W V)=>(boxed_below hI.2 hB).cell) (fun(V:World) (hB:Bl W V)=>(boxed_below (boxed_below Qg.o hW) hB).cell) (fun(V:World) (hB:Bl W V)=>hbx.below hB) (fun(V:World) (hB:Bl W V)=>HP.o V _ x (Bt hW hB) (hx.below hB) (hpre.subset (by simp))) (fun(n9:Nat) (V:World) (hB:Bl W V)=>Qi.o n9 (H.map f) (f x) (.int .i64 (f x)) V (Qn.o _ _ _ hI.1 hB) rfl (by have:=hpre.map f;rwa[List.map_append]at this) (An (by have:=Qb.o;omega) hB.size)) (fun(V V':World) (hB:Bl W V) (h:G (H.map f++[f x]) V'∧V.heap.size≤V'.heap.size∧∀(k:Nat) (o:Obj),W0.heap.size≤k→V.heap[k]?=some o→V'.heap[k]?=some o)=>show Hx W0 W l f G 147 (H++[x]) V' from⟨⟨by rw[List.map_append];exact h.1,h.2.2 _ _ (Aa _) (boxed_below hI.2 hB)⟩,An hB.size h.2.1,fun k o hk ho=>h.2.2 k o hk ((hB.block k (Ab.1 ho).1).trans ho)⟩) (show W0.heap.size≤W1.heap.size by have:=Qb.o;omega);clear hI hbw hbx hx hpre hsz hW Qo HP Qc Qf Qi Qm Qk Qb Qg;dsimp only;gi_wp2_with fail
  refine JM Qq [[],[],[],[1,2],[0,3,3],[4]] (by kernel_rfl) (by decide)
   (fun D act V=>∃(td te tg ta tb tc:Value),act={ tmps:=#[.func (.yield l) #[] #[],.pointer (some ⟨Bth,0,none⟩),.pointer (some ⟨Bf,0,none⟩),.pointer (some ⟨W0.heap.size,0,none⟩),.pointer (some ⟨b,0,none⟩),.func (.func gf) #[] lb,.agg #[.bool s1,.slice a l2 c,.bool t1,.slice a2 k2 d2],td,te,tg,ta,tb,tc],defers:=[] }∧Hid ((D 0=true→td=.func (.yield l) #[] #[])∧(D 1=true→te=.func (.func pf) #[] pb)∧(D 2=true→tg=.agg #[.bool s1,.slice a l2 c,.bool t1,.slice a2 k2 d2])∧(D 3=true→ta=.int .i64 (f x))∧(D 4=true→tb=.bool true)∧(D 5=true→tc=.bool false))∧Hid ((D 4=false→Bl W V)∧(D 4=true→Hx W0 W l f G 147 (H++[x]) V)))
   ⟨_,_,_,_,_,_,rfl,Ja (by simp),Ja ⟨fun _=>(BG _ W).drew,by simp⟩⟩ ?step ?fin
  case step=>
   rintro D act V i ds hcl hi hds hDi ⟨td,te,tg,ta,tb,tc,rfl,GG,SS⟩;have hi6:i<6:=(Ae.1 hi).1;have Qa:i<5→D 4=false:=fun hi9=>by
    cases h:D 4 with
    |false=>rfl
    |true=>
     exfalso
     have h3:=hcl 4 _ rfl h 3 (by simp);have h0:=hcl 4 _ rfl h 0 (by simp);have h1:=hcl 3 _ rfl h3 1 (by simp);have h2:=hcl 3 _ rfl h3 2 (by simp);obtain rfl|rfl|rfl|rfl|rfl:=Iv i (by omega)
     all_goals simp_all
   obtain rfl|rfl|rfl|rfl|rfl|rfl:=Iw i (by omega)
   all_goals
    simp only[Ai,Ag,Ak]at hi;subst hi
   · have hB:=SS.o.1 (Qa (by omega));have e0:=Qs.o V hB;clear hds;refine DY ?_;exact⟨(Di GG),Ja ⟨fun h=>SS.o.1 (by simpa using h),fun h=>SS.o.2 (by simpa using h)⟩⟩
   · have hB:=SS.o.1 (Qa (by omega));have e0:=Qw.o V hB;clear hds;refine DY ?_;exact⟨(Dm GG),Ja ⟨fun h=>SS.o.1 (by simpa using h),fun h=>SS.o.2 (by simpa using h)⟩⟩
   · have hB:=SS.o.1 (Qa (by omega));have n0:=Qp.o V hB;obtain⟨e0,e1,e2,e3⟩:=n0.cq;clear n0;clear hds;refine DY ?_;exact⟨(De GG),Ja ⟨fun h=>SS.o.1 (by simpa using h),fun h=>SS.o.2 (by simpa using h)⟩⟩
   · have hB:=SS.o.1 (Qa (by omega));have Qv:=Qa (by omega);obtain rfl:=GG.o.2.1 (hds 1 (by simp));obtain rfl:=GG.o.2.2.1 (hds 2 (by simp));clear hds Qa;refine BO rfl fun K hK=>?_;go_simp;refine⟨trivial,fun h=>by simp[Fence.wide]at h,(Bj l1 ((BJ (n:=_)).2 (Qr.o V hB))).mono ?_⟩;rintro e w5 ⟨rfl,hb5⟩;exact hK _ _ ⟨_,_,_,_,_,_,rfl,Ja ⟨GG.o.1,fun _=>rfl,fun _=>rfl,fun _=>rfl,GG.o.2.2.2.2.1,GG.o.2.2.2.2.2⟩,Ja ⟨fun _=>Bt hB hb5,fun h=>by simp[Qv]at h⟩⟩
   · have hB:=SS.o.1 hDi;obtain rfl:=GG.o.1 (hds 0 (by simp));obtain rfl:=GG.o.2.2.2.1 (hds 3 (by simp));clear hds Qa;obtain⟨fn,tm,asg,bd,hy,hRd⟩:=Qt.o (n-1-1-1) V hB;refine BO rfl fun K hK=>?_;go_simp;refine⟨fun h=>by simp[Fence.wide]at h,RoundIn.mono hRd ?_⟩;rintro e w5 ⟨rfl,h5⟩;exact hK _ _ ⟨_,_,_,_,_,_,rfl,Ja ⟨fun _=>rfl,GG.o.2.1,GG.o.2.2.1,fun _=>rfl,fun _=>rfl,GG.o.2.2.2.2.2⟩,Ja ⟨fun h=>by simp at h,fun _=>HN.o V w5 hB h5⟩⟩
   · obtain rfl:=GG.o.2.2.2.2.1 (hds 4 (by simp));clear hds Qa;refine DY ?_;exact⟨Ja ⟨GG.o.1,GG.o.2.1,GG.o.2.2.1,GG.o.2.2.2.1,fun _=>rfl,fun _=>rfl⟩,Ja ⟨fun h=>SS.o.1 (by simpa using h),fun h=>SS.o.2 (by simpa using h)⟩⟩
  case fin=>
   rintro D act V hDD ⟨td,te,tg,ta,tb,tc,rfl,GG,SS⟩;obtain rfl:=GG.o.2.2.2.2.2 (hDD 5 (by decide));have HE:=Ja (show ∀act,Ih W1.heap.size (Eg W0 l f G 147) (H++[x]) W .normal act V from fun _=>by
    have h:=SS.o.2 (hDD 4 (by decide));exact⟨h.1,h.2.1,fun k o hk ho=>h.2.2 k o (An Qu.o hk) ho⟩)
   clear GG SS hDD;gi_wp2;exact HE.o _
 case done=>
  intro D W hD hI hK;obtain⟨HK,HI,HD⟩:=Dg hK hI (show W0.heap.size≤D by have:=Qb.o;omega);clear hI hD hK;gi_wp2_with fail
  refine⟨by simp,.inl ⟨_,_,rfl,Bb HK.o,?_⟩⟩;refine⟨_,results_none rfl _ _ _,⟨_,rfl⟩,?_⟩;exact Qc.o.putObj _ HI.o.1 HD.o HK.o rfl
theorem LK(v:Value)(q:Rat)(w:World)(h:Jg w v q)(hs:Sq q):
 Calls Tryz.prog 57 #[v] w fun e w'=>e=.returned (.int .i64 (Dk q))∧Bl w w':=by
 obtain⟨s,a,l,c,t,b,k,d,rfl⟩:=Jg.form h;have hA:Bl w (w.alloc (.cells #[.bool s,.slice a l c,.bool t,.slice b k d] 37)):=Ba w _;have H1:=Ja (Gk _ _ q 0 _ (h.below hA) (Xn _) hs Ec);rw[NG]at H1;obtain⟨n,hn⟩:=ex (Dk q);rw[hn]at H1 ⊢;have HA:=Ja hA;clear h hs hA hn;go_enter Tryz.func57,Tryz.ntmps57
 go_wp2_with(go_at_call 27;refine H1.o.mono ?_;clear H1;rintro e w1 ⟨rfl,hq⟩)
 go_ret;exact⟨rfl,Bt HA.o hq⟩
theorem P3(v:Value)(p:List Rat)(w:World)(h:Je w v p)(hs:Sqs p)(p0:p≠[]):
 Calls Tryz.prog 48 #[v] w fun e w'=>e=.returned (.int .i64 (Ef p))∧Bl w w':=by
 obtain⟨pa,la,pc,rfl⟩:=h.form;have hA:Bl w (w.alloc (.cells #[.slice pa la pc] 25)):=Ba w _;obtain⟨W0,hW0⟩:=ex (w.alloc (.cells #[.slice pa la pc] 25));have n0:Boxed W0 w.heap.size 25 (.slice pa la pc):=by rw[←hW0];exact BI w _ _
 rw[hW0]at hA;have Qd:=Ja hW0;have Qb:=Ja n0;have Qa:=n0.cell;have HA:=Ja hA;obtain⟨m,hm⟩:=ex (p.length-1:Nat);have Qc:(p.length:Int)-1=(m:Int):=by have:=Af.2 p0;omega
 have HD:=Ja (fun(V:World) (hB:Bl W0 V)=>J4 _ p V ((h.below hA).below hB));rw[Qc]at HD;have HC:=Ja (fun(V:World) (hB:Bl W0 V)=>show Calls Tryz.prog 74 #[.agg #[.slice pa la pc],.int .i64 (m:Int)] V fun e w'=>∃u,e=.returned u∧Jg w' u (cf p m)∧Bl V w' by
  have:=Gm _ p (m:Int) V ((h.below hA).below hB);rw[BE (by omega),Cs]at this;exact this)
 have HS:=Ja (fun(V:World) (x:Value) (hx:Jg V x (cf p m))=>LK x (cf p m) V hx (hs.at m));have e1:Ef p=Dk (cf p m):=by unfold Ef;rw[hm]
 rw[e1];obtain⟨n,hn⟩:=ex (Dk (cf p m));rw[hn]at HS ⊢;clear h hs p0 hA hW0 n0 Qc hm e1 hn;go_enter Tryz.func48,Tryz.ntmps48
 go_upto_region 1 with fail
 rw[Qd.o];clear Qd;have hq:Bl W0 W0.drew:=(BG _ W0).drew;go_region_held3 (fun w'=>w'.cell? ⟨w.heap.size,0,none⟩=some (.slice pa la pc)) (first|(with_reducible exact Qa)|(go_keep;done))
  (first
   |(go_at_call 30;refine(HD.o _ hq).mono ?_;clear HD;rintro e w5 ⟨rfl,hb5⟩;have hq:=Bt hq hb5;clear Qa;have Qa:=(boxed_below Qb.o hq).cell)
   |(go_at_call 74;refine(HC.o _ hq).mono ?_;clear HC;rintro e w6 ⟨v6,rfl,g6,hb6⟩;have hq:=Bt hq hb6;clear Qa;have Qa:=(boxed_below Qb.o hq).cell)
   |(go_at_call 57;refine(HS.o _ _ g6).mono ?_;clear HS g6;rintro e w7 ⟨rfl,hb7⟩;have hq:=Bt hq hb7;clear Qa;have Qa:=(boxed_below Qb.o hq).cell))
 go_wp2_with fail
 go_ret;exact⟨rfl,Bt HA.o hq⟩
theorem ZJ(v:Value)(p:List Rat)(w:World)(h:Je w v p)(hs:Sqs p)(p0:p≠[])(hl:p.length≤1000000000):
 Calls Tryz.prog 47 #[v] w fun e w'=>e=.returned (.int .i64 (GW p))∧Bl w w':=by
 obtain⟨pa,la,pc,rfl⟩:=h.form;have hA:Bl w (w.alloc (.cells #[.slice pa la pc] 25)):=Ba w _;obtain⟨W0,hW0⟩:=ex (w.alloc (.cells #[.slice pa la pc] 25));have n0:Boxed W0 w.heap.size 25 (.slice pa la pc):=by rw[←hW0];exact BI w _ _
 rw[hW0]at hA;have Qb:=Ja hW0;have Qc:=Ja n0;have Qa:=n0.cell;have HA:=Ja hA;obtain⟨m,hm⟩:=ex (p.length-1:Nat);have Qf:=Af.2 p0;have Qe:(p.length:Int)-1=(m:Int):=by omega
 have HD:=Ja (fun(V:World) (hB:Bl W0 V)=>J4 _ p V ((h.below hA).below hB));rw[Qe]at HD;have HF:=Ja (fun(V:World) (hB:Bl W0 V)=>P3 _ p V ((h.below hA).below hB) hs p0);have Qd:=KR (cf p (p.length-1));have Qd:-1≤Ef p∧Ef p≤1:=Qd;have e1:GW p=if m%2=0 then Ef p else -Ef p:=by
  unfold GW;by_cases h2:p.length%2=0
  · rw[BH h2,BE (by omega)]
  · rw[BE h2,BH (by omega)]
 rw[e1];obtain⟨n,hn⟩:=ex (Ef p);rw[hn]at HF Qd ⊢;clear h hs p0 hA hW0 n0 Qe e1 hn Qf;by_cases h2:m%2=0
 · rw[BH h2];have h3:(m:Int)%2=0:=by omega
   have Qg:m≤1000000000:=by omega
   clear hm hl h2;go_enter Tryz.func47,Tryz.ntmps47
   go_upto_region 1 with fail
   rw[Qb.o];clear Qb;have hq:=BG W0.heap.size W0;go_wp2_with(first
    |(go_at_call 30;refine(HD.o _ hq).mono ?_;clear HD;rintro e w5 ⟨rfl,hb5⟩;have hq:=Bt hq hb5;clear Qa;have Qa:=(boxed_below Qc.o hq).cell)
    |(go_at_call 48;refine(HF.o _ hq).mono ?_;clear HF;rintro e w6 ⟨rfl,hb6⟩;have hq:=Bt hq hb6;clear Qa;have Qa:=(boxed_below Qc.o hq).cell))
   go_ret;exact⟨rfl,Bt HA.o hq⟩
 · rw[BE h2];have h3:(m:Int)%2=1:=by omega
   have Qg:m≤1000000000:=by omega
   clear hm hl h2;go_enter Tryz.func47,Tryz.ntmps47
   go_upto_region 1 with fail
   rw[Qb.o];clear Qb;have hq:=BG W0.heap.size W0;go_wp2_with(first
    |(go_at_call 30;refine(HD.o _ hq).mono ?_;clear HD;rintro e w5 ⟨rfl,hb5⟩;have hq:=Bt hq hb5;clear Qa;have Qa:=(boxed_below Qc.o hq).cell)
    |(go_at_call 48;refine(HF.o _ hq).mono ?_;clear HF;rintro e w6 ⟨rfl,hb6⟩;have hq:=Bt hq hb6;clear Qa;have Qa:=(boxed_below Qc.o hq).cell))
   go_ret;exact⟨rfl,Bt HA.o hq⟩
theorem ZK(v:Value)(p:List Rat)(x:Rat)(B:Nat)(s t:Bool)(a b:Option Addr)(l c k d:Nat)(w:World)(h:Je w v p)(hb:JF w B 37 (.bool s) (.slice a l c) (.bool t) (.slice b k d))(hx:Jg w (.agg #[.bool s,.slice a l c,.bool t,.slice b k d]) x)(hs:Sqs p)(hsx:Sq x)(hok:Ie p x)(hse:Sq (ev p x)):
 Calls Tryz.prog 112 #[v,.pointer (some ⟨B,0,none⟩)] w fun e w'=>e=.returned (.int .i64 (Dk (ev p x)))∧Bl w w':=by
 obtain⟨pa,la,pc,rfl⟩:=h.form;have hA:Bl w (w.alloc (.cells #[.slice pa la pc] 25)):=Ba w _;have Qa:=Ja (Pv _ _ p x _ (h.below hA) (hx.below hA) hs hsx hok);have HS:=Ja (fun(V:World) (y:Value) (hy:Jg V y (ev p x))=>LK y (ev p x) V hy hse);obtain⟨n,hn⟩:=ex (Dk (ev p x));rw[hn]at HS ⊢;have b1:=hb.below hA;obtain⟨e0,e1,e2,e3⟩:=b1.cq;have HA:=Ja hA;clear h hb hx hs hsx hok hse hA hn b1;go_enter Tryz.func112,Tryz.ntmps112
 go_wp2_with(first
  |(go_at_call 32;refine Qa.o.mono ?_;clear Qa;rintro e w5 ⟨u5,rfl,g5,hb5⟩;clear e0 e1 e2 e3)
  |(go_at_call 57;refine(HS.o _ _ g5).mono ?_;clear HS;rintro e w6 ⟨rfl,hb6⟩))
 go_ret;exact⟨rfl,(Bt HA.o hb5).trans (hb6.mono (An HA.o.size hb5.size))⟩
theorem NJ(v:Value)(x:Rat)(w:World)(hx:Jg w v x):
 Calls Tryz.prog 51 #[v] w fun e w'=>∃B s t a b l c k d,e=.returned (.func (.func 112) #[] #[.pointer (some ⟨B,0,none⟩)])∧JF w' B 37 (.bool s) (.slice a l c) (.bool t) (.slice b k d)∧Jg w' (.agg #[.bool s,.slice a l c,.bool t,.slice b k d]) x∧Bl w w':=by
 obtain⟨s,a,l,c,t,b,k,d,rfl⟩:=Jg.form hx;have hA:Bl w (w.alloc (.cells #[.bool s,.slice a l c,.bool t,.slice b k d] 37)):=Ba w _;have HX:=Ja (hx.below hA);have HA:=Ja hA;clear hx hA;go_enter Tryz.func51,Tryz.ntmps51
 go_wp2_with fail
 go_ret;exact⟨_,s,t,a,b,l,c,k,d,rfl,JF.new w _ _ _ _ _,HX.o,HA.o⟩
end M3
theorem LL{p q:Rat}:D5 p q<0↔p<q:=by
 rw[Rat.lt_iff];unfold D5 XR;split<;>(try split)<;>omega
theorem ZL{p q:Rat}:D5 p q=0↔p=q:=by
 rw[Rat.eq_iff_mul_eq_mul];unfold D5 XR;split<;>(try split)<;>omega
theorem ZN{p q:Rat}:D5 p q=1↔q<p:=by
 rw[Rat.lt_iff];unfold D5 XR;split<;>(try split)<;>omega

