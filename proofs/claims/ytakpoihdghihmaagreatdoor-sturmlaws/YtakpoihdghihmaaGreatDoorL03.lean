import Derived.RangeFuncNested
import Derived.RangeFuncBound
import Derived.RangeFuncCalls
import Derived.RangeFuncLeaves
import Derived.RangeFuncBox
import Derived.Shelf.Abstract
import Derived.Shelf.RegionOpen
import Derived.WalkKit
import Derived.WalkSpells
import Derived.WalkLawsBesides
import Derived.OwnWalkIn
import Derived.TacticsInMore
import Derived.LoopNIn
import Derived.LoopIn
import Derived.Maps.AppendAt
import Derived.Deep.QuietTactic
import Derived.BigQuiet
import Derived.Test.YtakpoihdghihmaaGreatDoorL02
import Derived.Test.YtakpoihdghihmaaGreatDoorProg
set_option maxRecDepth 100000
set_option maxHeartbeats 16000000
namespace Go.Proofs.YtakpoihdghihmaaGreatDoor
open Go.RowKit Go.Shelf
section
theorem DM:type_of% @ownFrom_pure:=@ownFrom_pure
theorem DL:type_of% @Hid.out:=@Hid.out
theorem DJ:type_of% @ownFrom_below:=@ownFrom_below
theorem DH:type_of% @belowK_b:=@belowK_b
theorem Bz:type_of% @callsIn_of_wp:=@callsIn_of_wp
theorem Bv:type_of% @Own.from:=@Own.from
theorem Bu:type_of% @Below.heap_alloc:=@Below.heap_alloc
theorem Br:type_of% @enters_of:=@enters_of
theorem Bn:type_of% @World.putObj_heap_same:=@World.putObj_heap_same
theorem Bg:type_of% @grownBy_putObj':=@grownBy_putObj'
theorem Bb:type_of% @run_takeDeferred:=@run_takeDeferred
theorem BV:type_of% @OwnFrom.and:=@OwnFrom.and
theorem BU:type_of% @callsIn_of_wp_marks:=@callsIn_of_wp_marks
theorem BQ:type_of% @World.putObj_heap_other:=@World.putObj_heap_other
theorem BK:type_of% @KeepsOthers.setCell:=@KeepsOthers.setCell
theorem BJ:type_of% @callsIn_wide:=@callsIn_wide
theorem BI:type_of% @Boxed.new:=@Boxed.new
theorem BG:type_of% @Below.refl:=@Below.refl
theorem BF:type_of% @World.alloc_heap_new:=@World.alloc_heap_new
theorem BC:type_of% @Below.heap_setCell:=@Below.heap_setCell
theorem BB:type_of% @bodyPost_ret:=@bodyPost_ret
theorem BA:type_of% @World.size_alloc:=@World.size_alloc
abbrev Kp(k:IntKind):TypeId:=match k with|.i64=>3|_=>115
def Et(k:IntKind)(W:World)(b:Nat):Prop:=∃cs m,W.heap[b]?=some (.cells cs (Kp k) m)
theorem Et.lt{k:IntKind}{W:World}{b:Nat}(h:Et k W b):b<W.heap.size:=by obtain⟨cs,m,h⟩:=h;exact(Ab.1 h).1
theorem Et.of{k:IntKind}{W W':World}{b:Nat}(h:Et k W b)(e:W'.heap[b]?=W.heap[b]?):Et k W' b:=by obtain⟨cs,m,h⟩:=h;exact⟨cs,m,e.trans h⟩
theorem Et.below{k:IntKind}{W W':World}{b:Nat}(h:Et k W b)(hb:Below W.heap.size W W'):Et k W' b:=h.of (hb.block b h.lt)
theorem Et.set{k:IntKind}{W:World}{b:Nat}(h:Et k W b)(p:Addr)(u:Value):Et k (W.setCell p u) b:=by
 by_cases e:b=p.block
 · obtain⟨cs,m,h⟩:=h;obtain⟨hlt,hk⟩:=Ab.1 h;subst e;refine⟨if p.spot.isSome=true then cs else cs.setIfInBounds p.off u,m,?_⟩;show(W.heap.modify p.block _)[p.block]?=_;rw[Ca (by rw[CN];exact hlt),Cf,hk]
 · exact h.of (BC W p u b e)
def Row(k:IntKind)(W:World)(v:Value)(ds:List Nat):Prop:=
 ∃a cap,v=.slice a ds.length cap∧ds.length≤cap∧cap≤9223372036854775807∧ds.length≤1099511627776∧
  (ds=[]∨∃b off,a=some ⟨b,off,none⟩∧Et k W b∧∀j,j<ds.length→W.cell? ⟨b,off+j,none⟩=some (.int k (ds[j]?.getD 0:Nat)))
theorem Row.below{k:IntKind}{W W':World}{v:Value}{ds:List Nat}(h:Row k W v ds)(hb:Below W.heap.size W W'):Row k W' v ds:=by
 obtain⟨a,cap,e,h1,h2,h2',h3⟩:=h;refine⟨a,cap,e,h1,h2,h2',?_⟩;rcases h3 with h3|⟨b,off,ea,hlt,hc⟩
 · exact Or.inl h3
 · exact Or.inr ⟨b,off,ea,hlt.below hb,fun j hj=>(hb.cell (p:=⟨b,off+j,none⟩) hlt.lt).trans (hc j hj)⟩
theorem Row.typ{k:IntKind}{W:World}{a:Option Addr}{l cap:Nat}{ds:List Nat}(h:Row k W (.slice a l cap) ds)(h0:0<l):∃b off,a=some ⟨b,off,none⟩∧Et k W b:=by
 obtain⟨a',cap',e,_,_,_,h3⟩:=h;cases e;rcases h3 with h3|⟨b,off,ea,ht,_⟩
 · rw[h3]at h0;simp at h0
 · exact⟨b,off,ea,ht⟩
theorem Row.nil(k:IntKind)(W:World):Row k W (.slice none 0 0) []:=⟨none,0,rfl,Aa _,by omega,by simp,Or.inl rfl⟩
theorem Row.open{k:IntKind}{W:World}{v:Value}{ds:List Nat}(h:Row k W v ds):∃a cap,v=.slice a ds.length cap∧ds.length≤cap∧cap≤9223372036854775807∧ds.length≤1099511627776∧
 Hid (∀j,j<ds.length→∃b off,a=some ⟨b,off,none⟩∧b<W.heap.size∧W.cell? ⟨b,off+j,none⟩=some (.int k (ds[j]?.getD 0:Nat))):=by
 obtain⟨a,cap,e,h1,h2,h2',h3⟩:=h;refine⟨a,cap,e,h1,h2,h2',fun j hj=>?_⟩;rcases h3 with h3|⟨b,off,ea,hb,hc⟩
 · rw[h3]at hj;simp at hj
 · exact⟨b,off,ea,hb.lt,hc j hj⟩
theorem Tryz.infoU64:(Tryz.prog.info? 115).map (fun i=>(i.zero,i.size,i.bytes))=some (some (.int .u64 0),1,8):=by kernel_rfl
def cellsOf(k:IntKind)(ds:List Nat):List Value:=ds.map (fun d=>Value.int k (d:Nat))
theorem MN(k:IntKind)(ds:List Nat):(cellsOf k ds).length=ds.length:=by simp[cellsOf]
def lenV:Value→Nat|.slice _ k _=>k|_=>0
def RN(W:World)(v:Value)(n:Nat):Prop:=Row .i64 W v (Ji 10000 n)
def KB(F:Fence)(n:Nat)(P:Program)(g:Nat)(lb:Array Value)(N:Nat)(args:Nat→Array Value)(Rd:Nat→World→Prop):Prop:=
 ∀(l:Nat) (J Jx:Nat→World→Prop) (W:World),(∀k W1,J k W1→Rd k W1)→
  (∀k W1,J k W1→k<N→YieldAt F (n-1) P l (args k) W1 fun e W'=>(e=.returned (.bool true)∧J (k+1) W')∨(e=.returned (.bool false)∧Jx k W'))→
  J 0 W→CallsIn F n P g (#[.func (.yield l) #[] #[]]++lb) W fun e W'=>(∃v,e=.returned v)∧(J N W'∨∃k,k<N∧Jx k W')
def roundPost(B:Nat)(I:Nat→World→Prop)(Ix:Code→Nat→World→Prop)(k:Nat)(W:World):Exit→Act→World→Prop
 |.normal,_,W'=>KeepsFrom B W W'∧I (k+1) W'
 |.ret,_,W'=>KeepsFrom B W W'∧Ix .ret k W'
 |.exit id,_,W'=>KeepsFrom B W W'∧Ix (.exit id) k W'
 |.goto t,_,W'=>KeepsFrom B W W'∧Ix (.goto t) k W'
 |.panic _,_,_=>False
 |.outgrown,_,_=>False
variable {F:Fence} {n:Nat} {P:Program}
theorem Xb{g:Operand}{ps:Array Tmp}{assign body:Code}{Q:Exit→Act→World→Prop}{a:Act}{w:World}
(hro:F.round=none)(h1:1≤n){gf:Nat}{lb:Array Value}(hg:a.eval g=.func (.func gf) #[] lb)(hFg:F.fn gf)(eg:∀args w,(callFunc gf args).run P w=.ok (.enter gf args) w)
{N:Nat}{args:Nat→Array Value}{Rd:Nat→World→Prop}(hseq:KB F (n-1) P gf lb N args Rd)(hps:∀k,(args k).size=ps.size)
(I:Nat→World→Prop)(Ix:Code→Nat→World→Prop)(hI:OwnFrom w.heap.size I)(hIx:∀c,OwnFrom w.heap.size (Ix c))(h0:I 0 w)(hRd:∀k W,I k W→Rd k W)(a₁:Nat→Act)
(hassign:∀(l k:Nat) (W:World) (K:Act→World→Prop),K (a₁ k) W→
  assign.wpIn (F.inRound l) (n-1-1) P (Exit.then K (fun _ _ _=>False)) { tmps:=(ps.zip (args k)).foldl (fun t (p,v)=>t.setIfInBounds p v) a.tmps,defers:=[] } W)
(hbody:∀(l k:Nat) (W:World),I k W→k<N→w.heap.size<W.heap.size→body.wpIn (F.inRound l) (n-1-1) P (roundPost w.heap.size I Ix k W) (a₁ k) W)
(hdone:∀(D:Nat) (W:World),w.heap.size≤D→I N W→W.heap[D]?=some (.deferred (some []))→Q .normal { a with defers:={ target:=.collected D,args:=#[] }::a.defers } W)
(hstop:∀(D:Nat) (c:Code) (k:Nat) (W:World),w.heap.size≤D→k<N→Ix c k W→W.heap[D]?=some (.deferred (some []))→c.wpIn F n P Q { a with defers:={ target:=.collected D,args:=#[] }::a.defers } W):
 (Code.rangeFunc g ps assign body).wpIn F n P Q a w:=by
 refine wpIn_rangeFunc fun fn hfn=>?_;rw[hro];obtain⟨rc,hrc⟩:∃rc:LoopState→Option Code→Loop,rc=fun st pe=>{ state:=st,pending:=pe,fn,tmps:=a.tmps,params:=ps,assign,body,defers:=w.heap.size }:=⟨_,rfl⟩;obtain⟨V,hV⟩:=ex ((w.alloc (.deferred (some []))).alloc (.loop (rc .ready none)));have vL:V.heap[w.heap.size+1]?=some (.loop (rc .ready none)):=by
  rw[←hV];have:=BF (w.alloc (.deferred (some []))) (.loop (rc .ready none));rwa[BA]at this
 have vD:V.heap[w.heap.size]?=some (.deferred (some [])):=by
  rw[←hV];exact(Bu _ _ _ (by simp)).trans (BF w _)
 have vI:I 0 V:=by rw[←hV];exact hI.alloc _ (hI.alloc _ h0)
 refine⟨w.heap.size+1,[{ target:=.collected w.heap.size,args:=#[] }],V,{ target:=.fn (.func gf) lb,args:=#[.func (.yield (w.heap.size+1)) #[] #[]] },V,gf,
  #[.func (.yield (w.heap.size+1)) #[] #[]]++lb,V,?_,?_,?_,?_,fun _=>h1,?_⟩
 · rw[←hV,hrc];exact run_enterLoop_outer _ _ _ _ _
 · simp only[resolve,hg];simp[go_sem]
 · intro f' hf';simp[Target.leads]at hf';subst hf';exact hFg
 · simp[invoke,go_sem,eg]
 refine(hseq (w.heap.size+1)
  (fun k W=>I k W∧W.heap[w.heap.size+1]?=some (.loop (rc .ready none))∧W.heap[w.heap.size]?=some (.deferred (some [])))
  (fun k W=>∃c,Ix c k W∧W.heap[w.heap.size+1]?=some (.loop (rc .done (some c)))∧W.heap[w.heap.size]?=some (.deferred (some [])))
  V (fun k W h=>hRd k W h.1) ?_ ⟨vI,vL,vD⟩).mono ?_
 · rintro k W ⟨hi,hl,hk⟩ hlt;have Qf:w.heap.size+1<W.heap.size:=(Ab.1 hl).1;have hy:=run_yield (P:=P) (args:=args k) hl (by rw[hrc];exact hps k);rw[hrc]at hy;refine⟨fn,_,assign,body,hy,roundIn_of_wpIn hfn (hassign _ k W _ ⟨_,run_beginRound hl (by rw[hrc]),?_⟩)⟩;obtain⟨W2,hW2⟩:=ex (W.putObj (w.heap.size+1) (.loop { rc .ready none with state:=.busy }));rw[hW2];have Qc:W2.heap[w.heap.size+1]?=some (.loop { rc .ready none with state:=.busy }):=by rw[←hW2];exact Bn Qf
   have Qb:W2.heap[w.heap.size]?=some (.deferred (some [])):=by rw[←hW2];exact(BQ (by omega)).trans hk
   have Qd:I k W2:=by rw[←hW2];exact hI.putObj _ hi (by omega) hl rfl
   have Qe:w.heap.size<W2.heap.size:=(Ab.1 Qb).1;have fin:∀(jump:Option Code) (W3:World),KeepsFrom w.heap.size W2 W3→
    (Instr.endRound (w.heap.size+1) jump).run P W3=.ok (.bool jump.isNone) (W3.putObj (w.heap.size+1) (.loop (rc (if jump.isNone then .ready else .done) jump)))∧
    W3.heap[w.heap.size+1]?=some (.loop { rc .ready none with state:=.busy })∧
    (W3.putObj (w.heap.size+1) (.loop (rc (if jump.isNone then .ready else .done) jump))).heap[w.heap.size+1]?=some (.loop (rc (if jump.isNone then .ready else .done) jump))∧
    (W3.putObj (w.heap.size+1) (.loop (rc (if jump.isNone then .ready else .done) jump))).heap[w.heap.size]?=some (.deferred (some [])):=fun jump W3 hk3=>by
    have Qa:=hk3.same _ _ (by omega) Qc rfl;have hr:=run_endRound (P:=P) jump Qa;rw[hrc]at hr ⊢;exact⟨hr,by rw[hrc]at Qa;exact Qa,Bn (Ab.1 Qa).1,(BQ (by omega)).trans (hk3.same _ _ (Aa _) Qb rfl)⟩
   refine wpIn_mono (hbody _ k W2 Qd hlt Qe) fun e a3 W3 hp=>?_;cases e with
   |normal=>
    obtain⟨hr,Qa,hl4,hk4⟩:=fin none W3 hp.1;exact⟨_,_,hr,.inl ⟨rfl,hI.putObj _ hp.2 (by omega) Qa rfl,hl4,hk4⟩⟩
   |ret=>
    obtain⟨hr,Qa,hl4,hk4⟩:=fin (some .ret) W3 hp.1;exact⟨_,_,hr,.inr ⟨rfl,.ret,(hIx _).putObj _ hp.2 (by omega) Qa rfl,hl4,hk4⟩⟩
   |exit id=>
    obtain⟨hr,Qa,hl4,hk4⟩:=fin (some (.exit id)) W3 hp.1;exact⟨_,_,hr,.inr ⟨rfl,.exit id,(hIx _).putObj _ hp.2 (by omega) Qa rfl,hl4,hk4⟩⟩
   |goto t=>
    obtain⟨hr,Qa,hl4,hk4⟩:=fin (some (.goto t)) W3 hp.1;exact⟨_,_,hr,.inr ⟨rfl,.goto t,(hIx _).putObj _ hp.2 (by omega) Qa rfl,hl4,hk4⟩⟩
   |panic ch=>exact hp.elim
   |outgrown=>exact hp.elim
 · rintro e W2 ⟨⟨v,rfl⟩,(⟨hi,hl,hk⟩|⟨k,hk0,c,hi,hl,hk⟩)⟩
   · exact⟨none,_,by have:=run_endLoop (P:=P) hl (by rw[hrc];simp);rw[hrc]at this;exact this,hdone _ _ (Aa _) (hI.putObj _ hi (by omega) hl rfl) ((BQ (by omega)).trans hk)⟩
   · exact⟨some c,_,by have:=run_endLoop (P:=P) hl (by rw[hrc];simp);rw[hrc]at this;exact this,hstop _ c k _ (Aa _) hk0 ((hIx c).putObj _ hi (by omega) hl rfl) ((BQ (by omega)).trans hk)⟩
end
section
attribute [local go_sem] Oper.semAt_some
def TE(Bs:Nat)(a:Option Addr)(len cap:Nat)(zs:Nat→Nat)(k:Nat)(W:World):Prop:=
 W.cell? ⟨Bs,0,none⟩=some (.slice a len cap)∧(k<len→∃b off,a=some ⟨b,off,none⟩∧W.cell? ⟨b,off+(len-1-k),none⟩=some (.int .u64 (zs (len-1-k):Nat)))
def Hf(len:Nat)(zs:Nat→Nat)(k:Nat):Array Value:=#[.int .i64 ((len:Int)-1-k),.int .u64 (zs (len-1-k):Nat)]
theorem KC(F:Fence)(n:Nat)(hf:F.fn 169)(hro:F.round=none)(hn:1≤n)(Bs:Nat)(a:Option Addr)(len cap:Nat)(zs:Nat→Nat)(hlen:len≤1099511627776):
 KB F n Tryz.prog 169 #[.pointer (some ⟨Bs,0,none⟩)] len (Hf len zs) (TE Bs a len cap zs):=fun l J Jx W hR hY h0=>by
 have hbs:=(hR 0 W h0).1;refine Bz Tryz.func169 rfl hf ?_ hro;simp only[Tryz.ntmps169,Ap,Ad,Au,Nat.reduceAdd,Nat.reduceSub,As,At,AC,Aw,Ao,AA];gi_wp2;gi_loopw [3] (fun i wr=>∃k:Nat,k≤len∧i=.int .i64 ((len:Int)-1-k)∧J k wr) (fun i _=>(intOf i+1).toNat)
 case atStart=>exact⟨0,AH _,by simp,h0⟩
 case round=>
  obtain⟨k,hk,rfl,hJ⟩:=hrel;obtain⟨hb2,hc2⟩:=hR k wr hJ;by_cases hlt:k<len
  · obtain⟨b,off,rfl,hc⟩:=hc2 hlt;obtain⟨fn,tmps,assign,body,hy,hRd⟩:=hY k wr hJ hlt;have e1:((len:Int)-1-k)=((len-1-k:Nat):Int):=by omega
    have e2:len-1-k<len:=by omega
    dsimp only[Hf]at hy;rw[e1]at hy ⊢;generalize hm:len-1-k=m at *;have HM:=DL (p:=Hid (len-1-k=m)) hm;clear hm e1;gi_wp2;refine hRd.mono ?_;rintro e W3 (⟨rfl,hJ3⟩|⟨rfl,hJx3⟩)
    · gi_wp2;go_roundw
      case rel=>exact⟨k+1,by omega,by(congr 1;have:=HM.out;omega),hJ3⟩
      case measure=>simp[intOf]
    · gi_wp2;refine BB (results_none rfl _ _ _) rfl ?_;exact⟨⟨_,rfl⟩,.inr ⟨k,hlt,hJx3⟩⟩
  · obtain rfl:k=len:=by omega
    gi_wp2;go_end0;exact⟨⟨_,rfl⟩,.inl hJ⟩
theorem KD(F:Fence)(n:Nat)(hf:F.fn 128)(hro:F.round=none)(a:Option Addr)(len cap:Nat)(w:World):
 CallsIn F n Tryz.prog 128 #[.slice a len cap] w fun e w'=>e=.returned (.func (.func 169) #[] #[.pointer (some ⟨w.heap.size,0,none⟩)])∧w'=w.alloc (.cells #[.slice a len cap] 33):=by
 refine Bz Tryz.func128 rfl hf ?_ hro;simp only[Tryz.ntmps128,Ap,Ad,Au,Nat.reduceAdd,Nat.reduceSub,As,At,AC,Aw,Ao,AA];gi_wp2;go_ret;exact⟨rfl,rfl⟩
theorem JB{k:IntKind}{W:World}{a:Option Addr}{l cap:Nat}{ds:List Nat}(h:Row k W (.slice a l cap) ds):l=ds.length∧l≤cap∧cap≤9223372036854775807∧l≤1099511627776∧
 ∀j,j<l→∃b off,a=some ⟨b,off,none⟩∧b<W.heap.size∧W.cell? ⟨b,off+j,none⟩=some (.int k (ds[j]?.getD 0:Nat)):=by
 obtain⟨a',c',e,h1,h2,h3,h4⟩:=Row.open h;cases e;exact⟨rfl,h1,h2,h3,h4⟩
theorem On{ds:List Nat}{j:Nat}(hj:j<ds.length)(h:ds[j]?.getD 0=0):ds[j]?=some 0:=by
 rw[Am hj]at h ⊢;exact congrArg some h
def Oo(w:World)(a:Option Addr)(len cap:Nat)(ds:List Nat)(k:Nat)(W:World):Prop:=
 (((Boxed W w.heap.size 33 (.slice a len cap)∧Boxed W (w.heap.size+1) 33 (.slice none 0 0))∧Boxed W (w.heap.size+1+1) 33 (.slice a len cap))∧Below w.heap.size w W)∧∀j,len-k≤j→j<len→ds[j]?.getD 0=0
def Oq(w:World)(a:Option Addr)(len cap:Nat)(ds:List Nat)(c:Code)(k:Nat)(W:World):Prop:=
 (Boxed W (w.heap.size+1) 33 (.slice a (len-1-k+1) cap)∧Below w.heap.size w W)∧(c=.ret∧ds[len-1-k]?.getD 0≠0∧∀j,len-k≤j→j<len→ds[j]?.getD 0=0)
theorem TF(w:World)(a:Option Addr)(len cap:Nat)(ds:List Nat):OwnFrom (w.heap.size+1+1+1) (Oo w a len cap ds):=
 BV (BV (BV (BV (Bv (boxed_own _ _ (fun _=>.slice a len cap)) _) (Bv (boxed_own _ _ (fun _=>.slice none 0 0)) _)) (Bv (boxed_own _ _ (fun _=>.slice a len cap)) _)) (DJ (Aa _) (by omega))) (DM _ _)
theorem TG(w:World)(a:Option Addr)(len cap:Nat)(ds:List Nat)(c:Code):OwnFrom (w.heap.size+1+1+1) (Oq w a len cap ds c):=
 BV (BV (Bv (boxed_own _ _ (fun k=>.slice a (len-1-k+1) cap)) _) (DJ (Aa _) (by omega))) (DM _ _)
theorem MO(a:Option Addr)(len cap:Nat)(ds:List Nat)(w:World)(h:Row .u64 w (.slice a len cap) ds):
 Calls Tryz.prog 73 #[.slice a len cap] w fun e w'=>∃u,e=.returned u∧(Row .u64 w' u (J5 ds)∧Below w.heap.size w w')∧(u=.slice none 0 0∧J5 ds=[]∨u=.slice a (J5 ds).length cap):=by
 obtain⟨hl,hcap,hcm,hlm,hc⟩:=JB h;have HL:=DL (p:=Hid (len=ds.length)) hl;have HC:=DL (p:=Hid (∀j,j<len→∃b off,a=some ⟨b,off,none⟩∧b<w.heap.size∧w.cell? ⟨b,off+j,none⟩=some (.int .u64 (ds[j]?.getD 0:Nat)))) hc;clear hc hl;refine(BJ (n:=3)).1 ?_;refine BU Tryz.func73 rfl trivial ?_ rfl;simp only[Tryz.ntmps73,Ap,Ad,Au,Nat.reduceAdd,Nat.reduceSub,As,At,AC,Aw,Ao,AA];gi_wp2_with(refine⟨trivial,?_⟩;gi_at_call 128;refine(KD Fence.wide _ trivial rfl _ _ _ _).mono ?_;rintro e w' ⟨rfl,rfl⟩)
 have b0:=((BI w 33 (.slice a len cap)).alloc (.cells #[.slice none 0 0] 33)).alloc (.cells #[.slice a len cap] 33);have b1:=(BI (w.alloc (.cells #[.slice a len cap] 33)) 33 (.slice none 0 0)).alloc (.cells #[.slice a len cap] 33);have b2:=BI ((w.alloc (.cells #[.slice a len cap] 33)).alloc (.cells #[.slice none 0 0] 33)) 33 (.slice a len cap);simp only[BA]at b1 b2;have Qd:Below w.heap.size w (((w.alloc (.cells #[.slice a len cap] 33)).alloc (.cells #[.slice none 0 0] 33)).alloc (.cells #[.slice a len cap] 33)):=(((BG _ w).alloc (Aa _) _).alloc (by simp) _).alloc (by simp;omega) _;have hN:(((w.alloc (.cells #[.slice a len cap] 33)).alloc (.cells #[.slice none 0 0] 33)).alloc (.cells #[.slice a len cap] 33)).heap.size=w.heap.size+1+1+1:=by simp
 refine Xb rfl (by omega) (gf:=169) (lb:=#[.pointer (some ⟨w.heap.size+1+1,0,none⟩)]) rfl trivial (Br Tryz.func169 (by kernel_rfl) rfl)
  (KC Fence.wide _ trivial rfl (by omega) (w.heap.size+1+1) a len cap (fun j=>ds[j]?.getD 0) hlm) (fun _=>rfl)
  (Oo w a len cap ds) (Oq w a len cap ds) (by rw[hN];exact TF w a len cap ds) (fun c=>by rw[hN];exact TG w a len cap ds c)
  ⟨⟨⟨⟨b0,b1⟩,b2⟩,Qd⟩,fun j h1 h2=>by omega⟩ ?rd
  (fun k=>{ tmps:=#[.slice a len cap,.pointer (some ⟨w.heap.size,0,none⟩),.pointer (some ⟨w.heap.size+1,0,none⟩),.int .i64 ((len:Int)-1-k),.int .u64 (ds[len-1-k]?.getD 0:Nat),.slice a len cap,.func (.func 169) #[] #[.pointer (some ⟨w.heap.size+1+1,0,none⟩)],.int .i64 ((len:Int)-1-k),.int .u64 (ds[len-1-k]?.getD 0:Nat),undef,undef,undef,undef,undef,undef],defers:=[] }) ?assign ?body ?done ?stop
 case rd=>
  rintro k W ⟨⟨⟨_,c2⟩,hB⟩,_⟩;refine⟨c2.cell,fun hk=>?_⟩;obtain⟨b,off,ea,hb,hc⟩:=HC.out (len-1-k) (by omega);exact⟨b,off,ea,(hB.cell (p:=⟨b,off+(len-1-k),none⟩) hb).trans hc⟩
 case assign=>
  intro l k W K hK;unfold Hf;gi_wp2;exact hK
 case body=>
  rintro l k W ⟨⟨⟨⟨c0,c1⟩,c2⟩,hB⟩,hz⟩ hk hsz;have d0:=c0.cell;have d1:=c1.cell;have f1:=c1.frozen;have HZ:=DL (p:=Hid (∀j,len-k≤j→j<len→ds[j]?.getD 0=0)) hz;clear hz;have e1:((len:Int)-1-k)=((len-1-k:Nat):Int):=by omega
  rw[e1];by_cases hx:ds[len-1-k]?.getD 0=0
  · have HX:=DL (p:=Hid (ds[len-1-k]?.getD 0=0)) hx;rw[hx];clear hx e1;gi_wp2;refine⟨KeepsFrom.refl _ _,⟨⟨⟨c0,c1⟩,c2⟩,hB⟩,fun j h1 h2=>?_⟩;by_cases hj:j=len-1-k
    · rw[hj];exact HX.out
    · exact HZ.out j (by omega) h2
  · have hm:len-1-k<len:=by omega
    have Qc:(((ds[len-1-k]?.getD 0:Nat):Int) != 0)=true:=by rw[bne_iff_ne];omega
    have HX:=DL (p:=Hid (ds[len-1-k]?.getD 0≠0)) hx;clear hx e1;have HK:=DL (p:=Hid (ds[len-1-k]?.getD 0≠0∧∀j,len-k≤j→j<len→ds[j]?.getD 0=0)) ⟨HX.out,HZ.out⟩;clear HX HZ;generalize ds[len-1-k]?.getD 0=x at Qc ⊢;generalize hm0:len-1-k=m at hm ⊢;have Qe:=DL (p:=Hid (len-1-k=m)) hm0;clear hm0;gi_wp2;refine⟨(BK _ _ _).from _,⟨?_,hB.setCell (p:=⟨w.heap.size+1,0,none⟩) (by simp) _⟩,rfl,HK.out⟩;rw[Qe.out];exact c1.set _
 case done=>
  rintro D W hD ⟨⟨⟨⟨c0,c1⟩,c2⟩,hB⟩,hz⟩ hK;have d1:=c1.cell;have f1:=c1.frozen;have HZ:=DL (p:=Hid (∀j,len-len≤j→j<len→ds[j]?.getD 0=0)) hz;clear hz;gi_wp2;have Qa:(W.setCell ⟨w.heap.size+1,0,none⟩ (.slice none 0 0)).heap[D]?=some (.deferred (some [])):=(BK W ⟨w.heap.size+1,0,none⟩ (.slice none 0 0)).same D _ hK rfl;refine⟨by simp,.inl ⟨_,_,rfl,Bb Qa,?_⟩⟩;have b1':=(c1.set (.slice none 0 0)).kept (Bg _ D (.deferred none)) (fun e=>by cases e;rw[show(W.setCell ⟨w.heap.size+1,0,none⟩ (.slice none 0 0)).heap[w.heap.size+1]?=_ from c1.set (.slice none 0 0)]at Qa;cases Qa);have q:=b1'.cell;have e0:J5 ds=[]:=Sc ds fun j hj=>On hj (HZ.out j (by omega) (by rw[HL.out];exact hj));refine⟨.slice none 0 0,by simp[results,Tryz.results73,go_sem,q],_,rfl,⟨?_,?_⟩,Or.inl ⟨rfl,e0⟩⟩
  · rw[e0];exact Row.nil _ _
  · exact(hB.setCell (p:=⟨w.heap.size+1,0,none⟩) (by simp) _).trans (DH (w:=w) (Aa _) _ D _ _ (by simp at hD;omega) Qa rfl rfl)
 case stop=>
  rintro D c k W hD hk ⟨⟨c1,hB⟩,rfl,hx,hz⟩ hK;have d1:=c1.cell;have HZ:=DL (p:=Hid (ds[len-1-k]?.getD 0≠0∧∀j,len-k≤j→j<len→ds[j]?.getD 0=0)) ⟨hx,hz⟩;clear hz hx;gi_wp2;refine⟨by simp,.inl ⟨_,_,rfl,Bb hK,?_⟩⟩;have b1':=c1.kept (Bg _ D (.deferred none)) (fun e=>by cases e;rw[show W.heap[w.heap.size+1]?=_ from c1]at hK;cases hK);have q:=b1'.cell;have Qb:Below w.heap.size w (W.putObj D (.deferred none)):=hB.trans (DH (w:=w) (Aa _) _ D _ _ (by simp at hD;omega) hK rfl rfl);have hlen:=HL.out;have e:J5 ds=ds.take (len-1-k+1):=by
   refine Sb ds (len-1-k) (by omega) ?_ ?_
   · intro h0;apply HZ.out.1;rw[h0];rfl
   · intro j h1 h2;exact On h2 (HZ.out.2 j (by omega) (by omega))
  have el:(ds.take (len-1-k+1)).length=len-1-k+1:=by rw[Al];omega
  refine⟨.slice a (len-1-k+1) cap,by simp[results,Tryz.results73,go_sem,q],_,rfl,⟨?_,Qb⟩,Or.inr (by rw[e,el])⟩;rw[e];have hr:=Row.below h Qb;obtain⟨_,_,_,_,hcs⟩:=JB hr;obtain⟨b,off,ea,hb,_⟩:=hcs (len-1-k) (by omega);have ht:Et .u64 (W.putObj D (.deferred none)) b:=by
   obtain⟨b2,o2,e2,ht⟩:=hr.typ (by omega);rw[ea]at e2;cases e2;exact ht
  refine⟨a,cap,by rw[el],by omega,hcm,by omega,Or.inr ⟨b,off,ea,ht,fun j hj=>?_⟩⟩;rw[el]at hj;obtain⟨b',off',ea',_,hc'⟩:=hcs j (by omega);rw[ea]at ea';cases ea';rw[hc',AY hj]
theorem YM(v:Value)(ds:List Nat)(w:World)(h:Row .u64 w v ds):
 Calls Tryz.prog 73 #[v] w fun e w'=>∃u,e=.returned u∧Row .u64 w' u (J5 ds)∧Below w.heap.size w w':=by
 obtain⟨a,cap,rfl,h1⟩:=id h;refine(MO a _ cap ds w h).mono ?_;rintro e w' ⟨u,rfl,⟨h2,h3⟩,_⟩;exact⟨u,rfl,h2,h3⟩
end
variable {F:Fence} {n:Nat} {P:Program}
theorem MP{g:Operand}{ps:Array Tmp}{assign body:Code}{Q:Exit→Act→World→Prop}{a:Act}{w:World}
(hro:F.round=none)(h1:1≤n){gf:Nat}{lb:Array Value}(hg:a.eval g=.func (.func gf) #[] lb)(hFg:F.fn gf)(eg:∀args w,(callFunc gf args).run P w=.ok (.enter gf args) w)
{N:Nat}{args:Nat→Array Value}{Rd:Nat→World→Prop}(hseq:KB F (n-1) P gf lb N args Rd)(hps:∀k,(args k).size=ps.size)
(I:Nat→World→Prop)(Ix:Code→Nat→World→Prop)(hI:OwnFrom w.heap.size I)(hIx:∀c,OwnFrom w.heap.size (Ix c))(h0:I 0 w)(hRd:∀k W,I k W→Rd k W)(a₁:Nat→Nat→Act)(o:Nat→Obj)
(hassign:∀(l k:Nat) (W:World) (K:Act→World→Prop),K (a₁ k W.heap.size) (W.alloc (o k))→
  assign.wpIn (F.inRound l) (n-1-1) P (Exit.then K (fun _ _ _=>False)) { tmps:=(ps.zip (args k)).foldl (fun t (p,v)=>t.setIfInBounds p v) a.tmps,defers:=[] } W)
(hbody:∀(l k b:Nat) (W:World),I k W→k<N→w.heap.size<W.heap.size→w.heap.size+1<b→W.heap[b]?=some (o k)→body.wpIn (F.inRound l) (n-1-1) P (roundPost w.heap.size I Ix k W) (a₁ k b) W)
(hdone:∀(D:Nat) (W:World),w.heap.size≤D→I N W→W.heap[D]?=some (.deferred (some []))→Q .normal { a with defers:={ target:=.collected D,args:=#[] }::a.defers } W)
(hstop:∀(D:Nat) (c:Code) (k:Nat) (W:World),w.heap.size≤D→k<N→Ix c k W→W.heap[D]?=some (.deferred (some []))→c.wpIn F n P Q { a with defers:={ target:=.collected D,args:=#[] }::a.defers } W):
 (Code.rangeFunc g ps assign body).wpIn F n P Q a w:=by
 refine wpIn_rangeFunc fun fn hfn=>?_;rw[hro];obtain⟨rc,hrc⟩:∃rc:LoopState→Option Code→Loop,rc=fun st pe=>{ state:=st,pending:=pe,fn,tmps:=a.tmps,params:=ps,assign,body,defers:=w.heap.size }:=⟨_,rfl⟩;obtain⟨V,hV⟩:=ex ((w.alloc (.deferred (some []))).alloc (.loop (rc .ready none)));have vL:V.heap[w.heap.size+1]?=some (.loop (rc .ready none)):=by
  rw[←hV];have:=BF (w.alloc (.deferred (some []))) (.loop (rc .ready none));rwa[BA]at this
 have vD:V.heap[w.heap.size]?=some (.deferred (some [])):=by
  rw[←hV];exact(Bu _ _ _ (by simp)).trans (BF w _)
 have vI:I 0 V:=by rw[←hV];exact hI.alloc _ (hI.alloc _ h0)
 refine⟨w.heap.size+1,[{ target:=.collected w.heap.size,args:=#[] }],V,{ target:=.fn (.func gf) lb,args:=#[.func (.yield (w.heap.size+1)) #[] #[]] },V,gf,
  #[.func (.yield (w.heap.size+1)) #[] #[]]++lb,V,?_,?_,?_,?_,fun _=>h1,?_⟩
 · rw[←hV,hrc];exact run_enterLoop_outer _ _ _ _ _
 · simp only[resolve,hg];simp[go_sem]
 · intro f' hf';simp[Target.leads]at hf';subst hf';exact hFg
 · simp[invoke,go_sem,eg]
 refine(hseq (w.heap.size+1)
  (fun k W=>I k W∧W.heap[w.heap.size+1]?=some (.loop (rc .ready none))∧W.heap[w.heap.size]?=some (.deferred (some [])))
  (fun k W=>∃c,Ix c k W∧W.heap[w.heap.size+1]?=some (.loop (rc .done (some c)))∧W.heap[w.heap.size]?=some (.deferred (some [])))
  V (fun k W h=>hRd k W h.1) ?_ ⟨vI,vL,vD⟩).mono ?_
 · rintro k W ⟨hi,hl,hk⟩ hlt;have Qd:w.heap.size+1<W.heap.size:=(Ab.1 hl).1;have hy:=run_yield (P:=P) (args:=args k) hl (by rw[hrc];exact hps k);rw[hrc]at hy;obtain⟨W1,hW1⟩:=ex (W.alloc (o k));have Qb:W1.heap[w.heap.size+1]?=some (.loop (rc .ready none)):=by rw[←hW1];exact(Bu _ _ _ Qd).trans hl
   have Qi:W1.heap[w.heap.size]?=some (.deferred (some [])):=by rw[←hW1];exact(Bu _ _ _ (by omega)).trans hk
   have Qg:I k W1:=by rw[←hW1];exact hI.alloc _ hi
   have Qf:W1.heap[W.heap.size]?=some (o k):=by rw[←hW1];exact BF W _
   refine⟨fn,_,assign,body,hy,roundIn_of_wpIn hfn (hassign _ k W _ ?_)⟩;rw[hW1];refine⟨_,run_beginRound Qb (by rw[hrc]),?_⟩;obtain⟨bx,hbx⟩:=ex (W.heap.size);rw[hbx]at Qf Qd ⊢;have Qc:w.heap.size+1<W1.heap.size:=(Ab.1 Qb).1;obtain⟨W2,hW2⟩:=ex (W1.putObj (w.heap.size+1) (.loop { rc .ready none with state:=.busy }));rw[hW2];have Qh:W2.heap[w.heap.size+1]?=some (.loop { rc .ready none with state:=.busy }):=by rw[←hW2];exact Bn Qc
   have Ql:W2.heap[bx]?=some (o k):=by rw[←hW2];exact(BQ (by omega)).trans Qf
   have Qe:W2.heap[w.heap.size]?=some (.deferred (some [])):=by rw[←hW2];exact(BQ (by omega)).trans Qi
   have Qj:I k W2:=by rw[←hW2];exact hI.putObj _ Qg (by omega) Qb rfl
   have Qk:w.heap.size<W2.heap.size:=(Ab.1 Qe).1;have fin:∀(jump:Option Code) (W3:World),KeepsFrom w.heap.size W2 W3→
    (Instr.endRound (w.heap.size+1) jump).run P W3=.ok (.bool jump.isNone) (W3.putObj (w.heap.size+1) (.loop (rc (if jump.isNone then .ready else .done) jump)))∧
    W3.heap[w.heap.size+1]?=some (.loop { rc .ready none with state:=.busy })∧
    (W3.putObj (w.heap.size+1) (.loop (rc (if jump.isNone then .ready else .done) jump))).heap[w.heap.size+1]?=some (.loop (rc (if jump.isNone then .ready else .done) jump))∧
    (W3.putObj (w.heap.size+1) (.loop (rc (if jump.isNone then .ready else .done) jump))).heap[w.heap.size]?=some (.deferred (some [])):=fun jump W3 hk3=>by
    have Qa:=hk3.same _ _ (by omega) Qh rfl;have hr:=run_endRound (P:=P) jump Qa;rw[hrc]at hr ⊢;exact⟨hr,by rw[hrc]at Qa;exact Qa,Bn (Ab.1 Qa).1,(BQ (by omega)).trans (hk3.same _ _ (Aa _) Qe rfl)⟩
   refine wpIn_mono (hbody _ k bx W2 Qj hlt Qk Qd Ql) fun e a3 W3 hp=>?_;cases e with
   |normal=>
    obtain⟨hr,Qa,hl4,hk4⟩:=fin none W3 hp.1;exact⟨_,_,hr,.inl ⟨rfl,hI.putObj _ hp.2 (by omega) Qa rfl,hl4,hk4⟩⟩
   |ret=>
    obtain⟨hr,Qa,hl4,hk4⟩:=fin (some .ret) W3 hp.1;exact⟨_,_,hr,.inr ⟨rfl,.ret,(hIx _).putObj _ hp.2 (by omega) Qa rfl,hl4,hk4⟩⟩
   |exit id=>
    obtain⟨hr,Qa,hl4,hk4⟩:=fin (some (.exit id)) W3 hp.1;exact⟨_,_,hr,.inr ⟨rfl,.exit id,(hIx _).putObj _ hp.2 (by omega) Qa rfl,hl4,hk4⟩⟩
   |goto t=>
    obtain⟨hr,Qa,hl4,hk4⟩:=fin (some (.goto t)) W3 hp.1;exact⟨_,_,hr,.inr ⟨rfl,.goto t,(hIx _).putObj _ hp.2 (by omega) Qa rfl,hl4,hk4⟩⟩
   |panic ch=>exact hp.elim
   |outgrown=>exact hp.elim
 · rintro e W2 ⟨⟨v,rfl⟩,(⟨hi,hl,hk⟩|⟨k,hk0,c,hi,hl,hk⟩)⟩
   · exact⟨none,_,by have:=run_endLoop (P:=P) hl (by rw[hrc];simp);rw[hrc]at this;exact this,hdone _ _ (Aa _) (hI.putObj _ hi (by omega) hl rfl) ((BQ (by omega)).trans hk)⟩
   · exact⟨some c,_,by have:=run_endLoop (P:=P) hl (by rw[hrc];simp);rw[hrc]at this;exact this,hstop _ c k _ (Aa _) hk0 ((hIx c).putObj _ hi (by omega) hl rfl) ((BQ (by omega)).trans hk)⟩

