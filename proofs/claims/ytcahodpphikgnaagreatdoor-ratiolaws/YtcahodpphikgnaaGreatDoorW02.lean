import Derived.RangeFuncNested
import Derived.RangeFuncBound
import Derived.Shelf.RegionOpen
import Derived.WalkSpells
import Derived.WalkLawsBesides
import Derived.OwnWalkIn
import Derived.LoopNIn
import Derived.LoopIn
import Derived.Test.YtcahodpphikgnaaGreatDoorW01
import Derived.Test.YtcahodpphikgnaaGreatDoorProg
set_option linter.all false
set_option maxRecDepth 99999
set_option maxHeartbeats 0
namespace Go.Proofs.YtcahodpphikgnaaGreatDoor
open Proofs.Tryz
open Go.RowKit Go.Shelf
section
def Lz{p:Prop}(h:p:=by kernel_rfl):p:=h
abbrev N:=Option Addr
def Bi:=@bne_iff_ne
def Bg:=@Hid.out
def Bb:=@World.putObj_heap_other
def BZ:=@Own.from
def BS:=@run_takeDeferred
def BR:=@grownBy_putObj'
def BP:=@Below.heap_setCell
def BO:=@callsIn_of_wp_marks
def BL:=@KeepsOthers.setCell
def BK:=@Boxed.new
def BJ:=@callsIn_wide
def BF:=@OwnFrom.and
def BD:=@World.alloc_heap_new
def BC:=@Below.refl
def BB:=@bodyPost_ret
theorem BA:type_of% @World.size_alloc:=@World.size_alloc
abbrev Gi(k:IntKind):TypeId:=match k with|.i64=>3|_=>94
def CO(k:IntKind)(W:World)(b:Nat):Prop:=∃cs m,W.heap[b]?=some (.cells cs (Gi k) m)
theorem CO.lt{k:IntKind}{W:World}{b:Nat}(h:CO k W b):b<W.heap.size:=by obtain⟨cs,m,h⟩:=h;grind
theorem CO.of{k:IntKind}{W W':World}{b:Nat}(h:CO k W b)(e:W'.heap[b]?=W.heap[b]?):CO k W' b:=by obtain⟨cs,m,h⟩:=h;exact⟨cs,m,e.trans h⟩
def CO.below{k:IntKind}{W W':World}{b:Nat}(h:CO k W b)(hb:Below W.heap.size W W'):CO k W' b:=h.of (hb.block b h.lt)
theorem CO.set{k:IntKind}{W:World}{b:Nat}(h:CO k W b)(p:Addr)(u:Value):CO k (W.setCell p u) b:=by
 by_cases e:b=p.block
 · obtain⟨cs,m,h⟩:=h;obtain⟨hlt,hk⟩:=Ac.1 h;subst e;refine⟨if p.spot.isSome=true then cs else cs.setIfInBounds p.off u,m,?_⟩;show(W.heap.modify p.block _)[p.block]?=_;grind
 · exact h.of (BP W p u b e)
def Row(k:IntKind)(W:World)(v:Value)(ds:Y):Prop:=
 ∃a cap,v=.slice a ds.length cap∧ds.length≤cap∧cap≤9223372036854775807∧ds.length≤1099511627776∧
  (ds=[]∨∃b off,a=some ⟨b,off,none⟩∧CO k W b∧∀j,j<ds.length→W.cell? ⟨b,off+j,none⟩=some (.int k (ds[j]?.getD 0:Nat)))
def Row.below{k:IntKind}{W W':World}{v:Value}{ds:Y}(h:Row k W v ds)(hb:Below W.heap.size W W'):Row k W' v ds:=by
 obtain⟨a,cap,e,h1,h2,h2',h3⟩:=h;refine⟨a,cap,e,h1,h2,h2',?_⟩;rcases h3 with h3|⟨b,off,ea,hlt,hc⟩
 · exact AE h3
 · exact A6 ⟨b,off,ea,hlt.below hb,fun j hj=>(hb.cell (p:=⟨b,off+j,none⟩) hlt.lt).trans (hc j hj)⟩
theorem Row.typ{k:IntKind}{W:World}{a:N}{l cap:Nat}{ds:Y}(h:Row k W (.slice a l cap) ds)(h0:0<l):∃b off,a=some ⟨b,off,none⟩∧CO k W b:=by
 obtain⟨a',cap',e,_,_,_,h3⟩:=h;grind
theorem Row.nil(k:IntKind)(W:World):Row k W (.slice none 0 0) []:=⟨none,0,J,Aa _,by omega,by simp,AE J⟩
theorem Row.open{k:IntKind}{W:World}{v:Value}{ds:Y}(h:Row k W v ds):∃a cap,v=.slice a ds.length cap∧ds.length≤cap∧cap≤9223372036854775807∧ds.length≤1099511627776∧
 Hid (∀j,j<ds.length→∃b off,a=some ⟨b,off,none⟩∧b<W.heap.size∧W.cell? ⟨b,off+j,none⟩=some (.int k (ds[j]?.getD 0:Nat))):=by
 obtain⟨a,cap,e,h1,h2,h2',h3⟩:=h;refine⟨a,cap,e,h1,h2,h2',fun j hj=>?_⟩;rcases h3 with h3|⟨b,off,ea,hb,hc⟩
 · grind
 · exact⟨b,off,ea,hb.lt,hc j hj⟩
def Tryz.infoU64:(Tryz.prog.info? 94).map (fun i=>(i.zero,i.size,i.bytes))=some (some (.int .u64 0),1,8):=by kernel_rfl
def cellsOf(k:IntKind)(ds:Y):List Value:=ds.map (fun d=>Value.int k (d:Nat))
def Gj(k:IntKind)(ds:Y)(d:Nat):cellsOf k (ds++[d])=cellsOf k ds++[.int k (d:Nat)]:=by simp[cellsOf]
theorem Gk(k:IntKind)(ds:Y):(cellsOf k ds).length=ds.length:=by simp[cellsOf]
def RN(W:World)(v:Value)(n:Nat):Prop:=Row .i64 W v (Jc 10000 n)
def Dm(F:Fence)(n:Nat)(P:Program)(g:Nat)(lb:Array Value)(N:Nat)(args:Nat→Array Value)(Rd:Nat→World→Prop):Prop:=
 ∀(l:Nat) (J Jx:Nat→World→Prop) (W:World),(∀k W1,J k W1→Rd k W1)→
  (∀k W1,J k W1→k<N→YieldAt F (n-1) P l (args k) W1 fun e W'=>(e=.returned (.bool true)∧J (k+1) W')∨(e=.returned (.bool false)∧Jx k W'))→
  J 0 W→CallsIn F n P g (#[.func (.yield l) #[] #[]]++lb) W fun e W'=>(∃v,e=.returned v)∧(J N W'∨∃k,k<N∧Jx k W')
def roundPost(B:Nat)(I:Nat→World→Prop)(Ix:Code→Nat→World→Prop)(k:Nat)(W:World):Exit→Act→World→Prop
 |.normal,_,W'=>KeepsFrom B W W'∧I (k+1) W'
 |.ret,_,W'=>KeepsFrom B W W'∧Ix .ret k W'
 |.exit id,_,W'=>KeepsFrom B W W'∧Ix (.exit id) k W'
 |.goto t,_,W'=>KeepsFrom B W W'∧Ix (.goto t) k W'
 |.panic _,_,_=>False
 |.outgrown,_,_=>False
variable {F:Fence} {n:Nat} {P:Program}
theorem J7{g:Operand}{ps:Array Tmp}{assign body:Code}{Q:Exit→Act→World→Prop}{a:Act}{w:World}
(hro:F.round=none)(h1:1≤n){gf:Nat}{lb:Array Value}(hg:a.eval g=.func (.func gf) #[] lb)(hFg:F.fn gf)(eg:∀args w,(callFunc gf args).run P w=.ok (.enter gf args) w)
{N:Nat}{args:Nat→Array Value}{Rd:Nat→World→Prop}(hseq:Dm F (n-1) P gf lb N args Rd)(hps:∀k,(args k).size=ps.size)
(I:Nat→World→Prop)(Ix:Code→Nat→World→Prop)(hI:OwnFrom w.heap.size I)(hIx:∀c,OwnFrom w.heap.size (Ix c))(h0:I 0 w)(hRd:∀k W,I k W→Rd k W)(a₁:Nat→Act)
(hassign:∀(l k:Nat) (W:World) (K:Act→World→Prop),K (a₁ k) W→
  assign.wpIn (F.inRound l) (n-1-1) P (Exit.then K (fun _ _ _=>False)) { tmps:=(ps.zip (args k)).foldl (fun t (p,v)=>t.setIfInBounds p v) a.tmps,defers:=[] } W)
(hbody:∀(l k:Nat) (W:World),I k W→k<N→w.heap.size<W.heap.size→body.wpIn (F.inRound l) (n-1-1) P (roundPost w.heap.size I Ix k W) (a₁ k) W)
(hdone:∀(D:Nat) (W:World),w.heap.size≤D→I N W→W.heap[D]?=some (.deferred (some []))→Q .normal { a with defers:={ target:=.collected D,args:=#[] }::a.defers } W)
(hstop:∀(D:Nat) (c:Code) (k:Nat) (W:World),w.heap.size≤D→k<N→Ix c k W→W.heap[D]?=some (.deferred (some []))→c.wpIn F n P Q { a with defers:={ target:=.collected D,args:=#[] }::a.defers } W):
 (Code.rangeFunc g ps assign body).wpIn F n P Q a w:=by
 refine wpIn_rangeFunc fun fn hfn=>?_;rw[hro];obtain⟨rc,hrc⟩:∃rc:LoopState→Option Code→Loop,rc=fun st pe=>{ state:=st,pending:=pe,fn,tmps:=a.tmps,params:=ps,assign,body,defers:=w.heap.size }:=⟨_,J⟩;obtain⟨V,hV⟩:=ex ((w.alloc (.deferred (some []))).alloc (.loop (rc .ready none)));have vL:V.heap[w.heap.size+1]?=some (.loop (rc .ready none)):=by
  rw[←hV];have:=BD (w.alloc (.deferred (some []))) (.loop (rc .ready none));rwa[BA]at this
 have vD:V.heap[w.heap.size]?=some (.deferred (some [])):=by
  rw[←hV];exact(Below.heap_alloc _ _ _ (by simp)).trans (BD w _)
 have vI:I 0 V:=by rw[←hV];exact hI.alloc _ (hI.alloc _ h0)
 refine⟨w.heap.size+1,[{ target:=.collected w.heap.size,args:=#[] }],V,{ target:=.fn (.func gf) lb,args:=#[.func (.yield (w.heap.size+1)) #[] #[]] },V,gf,
  #[.func (.yield (w.heap.size+1)) #[] #[]]++lb,V,?_,?_,?_,?_,fun _=>h1,?_⟩
 · grind[run_enterLoop_outer]
 · simp only[resolve,hg];simp[go_sem]
 · intro f' hf';simp[Target.leads]at hf';subst hf';exact hFg
 · simp[invoke,go_sem,eg]
 refine(hseq (w.heap.size+1)
  (fun k W=>I k W∧W.heap[w.heap.size+1]?=some (.loop (rc .ready none))∧W.heap[w.heap.size]?=some (.deferred (some [])))
  (fun k W=>∃c,Ix c k W∧W.heap[w.heap.size+1]?=some (.loop (rc .done (some c)))∧W.heap[w.heap.size]?=some (.deferred (some [])))
  V (fun k W h=>hRd k W h.1) ?_ ⟨vI,vL,vD⟩).mono ?_
 · rintro k W ⟨hi,hl,hk⟩ hlt;have Qf:w.heap.size+1<W.heap.size:=(Ac.1 hl).1;have hy:=run_yield (P:=P) (args:=args k) hl (by rw[hrc];exact hps k);rw[hrc]at hy;refine⟨fn,_,assign,body,hy,roundIn_of_wpIn hfn (hassign _ k W _ ⟨_,run_beginRound hl (by rw[hrc]),?_⟩)⟩;obtain⟨W2,hW2⟩:=ex (W.putObj (w.heap.size+1) (.loop { rc .ready none with state:=.busy }));rw[hW2];have Qc:W2.heap[w.heap.size+1]?=some (.loop { rc .ready none with state:=.busy }):=by rw[←hW2];exact World.putObj_heap_same Qf
   have Qb:W2.heap[w.heap.size]?=some (.deferred (some [])):=by rw[←hW2];exact(Bb (by omega)).trans hk
   have Qd:I k W2:=by rw[←hW2];exact hI.putObj _ hi (by omega) hl J
   have Qe:w.heap.size<W2.heap.size:=(Ac.1 Qb).1;have fin:∀(jump:Option Code) (W3:World),KeepsFrom w.heap.size W2 W3→
    (Instr.endRound (w.heap.size+1) jump).run P W3=.ok (.bool jump.isNone) (W3.putObj (w.heap.size+1) (.loop (rc (if jump.isNone then .ready else .done) jump)))∧
    W3.heap[w.heap.size+1]?=some (.loop { rc .ready none with state:=.busy })∧
    (W3.putObj (w.heap.size+1) (.loop (rc (if jump.isNone then .ready else .done) jump))).heap[w.heap.size+1]?=some (.loop (rc (if jump.isNone then .ready else .done) jump))∧
    (W3.putObj (w.heap.size+1) (.loop (rc (if jump.isNone then .ready else .done) jump))).heap[w.heap.size]?=some (.deferred (some [])):=fun jump W3 hk3=>by
    have Qa:=hk3.same _ _ (by omega) Qc J;have hr:=run_endRound (P:=P) jump Qa;rw[hrc]at hr ⊢;exact⟨hr,by grind,World.putObj_heap_same (Ac.1 Qa).1,(Bb (by omega)).trans (hk3.same _ _ (Aa _) Qb J)⟩
   refine wpIn_mono (hbody _ k W2 Qd hlt Qe) fun e a3 W3 hp=>?_;cases e with
   |normal=>
    obtain⟨hr,Qa,hl4,hk4⟩:=fin none W3 hp.1;exact⟨_,_,hr,.inl ⟨J,hI.putObj _ hp.2 (by omega) Qa J,hl4,hk4⟩⟩
   |ret=>
    obtain⟨hr,Qa,hl4,hk4⟩:=fin (some .ret) W3 hp.1;exact⟨_,_,hr,.inr ⟨J,.ret,(hIx _).putObj _ hp.2 (by omega) Qa J,hl4,hk4⟩⟩
   |exit id=>
    obtain⟨hr,Qa,hl4,hk4⟩:=fin (some (.exit id)) W3 hp.1;exact⟨_,_,hr,.inr ⟨J,.exit id,(hIx _).putObj _ hp.2 (by omega) Qa J,hl4,hk4⟩⟩
   |goto t=>
    obtain⟨hr,Qa,hl4,hk4⟩:=fin (some (.goto t)) W3 hp.1;exact⟨_,_,hr,.inr ⟨J,.goto t,(hIx _).putObj _ hp.2 (by omega) Qa J,hl4,hk4⟩⟩
   |panic ch=>exact hp.elim
   |outgrown=>exact hp.elim
 · rintro e W2 ⟨⟨v,rfl⟩,(⟨hi,hl,hk⟩|⟨k,hk0,c,hi,hl,hk⟩)⟩
   · exact⟨none,_,by have:=run_endLoop (P:=P) hl (by rw[hrc];simp);rw[hrc]at this;exact this,hdone _ _ (Aa _) (hI.putObj _ hi (by omega) hl J) ((Bb (by omega)).trans hk)⟩
   · exact⟨some c,_,by have:=run_endLoop (P:=P) hl (by rw[hrc];simp);rw[hrc]at this;exact this,hstop _ c k _ (Aa _) hk0 ((hIx c).putObj _ hi (by omega) hl J) ((Bb (by omega)).trans hk)⟩
end
attribute [local go_sem] Oper.semAt_some
def Ei(Bs:Nat)(a:N)(len cap:Nat)(zs:Nat→Nat)(k:Nat)(W:World):Prop:=
 W.cell? ⟨Bs,0,none⟩=some (.slice a len cap)∧(k<len→∃b off,a=some ⟨b,off,none⟩∧W.cell? ⟨b,off+(len-1-k),none⟩=some (.int .u64 (zs (len-1-k):Nat)))
def Yl(len:Nat)(zs:Nat→Nat)(k:Nat):Array Value:=#[.int .i64 ((len:Int)-1-k),.int .u64 (zs (len-1-k):Nat)]
def Xe(F:Fence)(n:Nat)(hf:F.fn 126)(hro:F.round=none)(hn:1≤n)(Bs:Nat)(a:N)(len cap:Nat)(zs:Nat→Nat)(hlen:len≤1099511627776):
 Dm F n Tryz.prog 126 #[.pointer (some ⟨Bs,0,none⟩)] len (Yl len zs) (Ei Bs a len cap zs):=fun l J Jx W hR hY h0=>by
 have hbs:=(hR 0 W h0).1;refine callsIn_of_wp func126 rfl hf ?_ hro;simp only[ntmps126,Ae,Aj,AK,Nat.reduceAdd,Nat.reduceSub,An,Ao,AD,At,Af,Aq];gi_wp2;gi_loopw [3] (fun i wr=>∃k:Nat,k≤len∧i=.int .i64 ((len:Int)-1-k)∧J k wr) (fun i _=>(intOf i+1).toNat)
 case atStart=>exact⟨0,AP _,by simp,h0⟩
 case round=>
  obtain⟨k,hk,rfl,hJ⟩:=hrel;obtain⟨hb2,hc2⟩:=hR k wr hJ;by_cases hlt:k<len
  · obtain⟨b,off,rfl,hc⟩:=hc2 hlt;obtain⟨fn,tmps,assign,body,hy,hRd⟩:=hY k wr hJ hlt;have e1:((len:Int)-1-k)=((len-1-k:Nat):Int):=by omega
    have e2:len-1-k<len:=by omega
    dsimp only[Yl]at hy;rw[e1]at hy ⊢;generalize hm:len-1-k=m at *;have HM:=Bg (p:=Hid (len-1-k=m)) hm;clear hm e1;gi_wp2;refine hRd.mono ?_;rintro e W3 (⟨rfl,hJ3⟩|⟨rfl,hJx3⟩)
    · gi_wp2;go_roundw
      case rel=>exact⟨k+1,by omega,by(congr 1;have:=HM.out;omega),hJ3⟩
      case measure=>simp[intOf]
    · gi_wp2;refine BB (results_none rfl _ _ _) rfl ?_;exact⟨⟨_,rfl⟩,.inr ⟨k,hlt,hJx3⟩⟩
  · obtain rfl:k=len:=by omega
    gi_wp2;go_end0;exact⟨⟨_,rfl⟩,.inl hJ⟩
def DH(F:Fence)(n:Nat)(hf:F.fn 103)(hro:F.round=none)(a:N)(len cap:Nat)(w:World):
 CallsIn F n Tryz.prog 103 #[.slice a len cap] w fun e w'=>e=.returned (.func (.func 126) #[] #[.pointer (some ⟨w.heap.size,0,none⟩)])∧w'=w.alloc (.cells #[.slice a len cap] 23):=by
 refine callsIn_of_wp func103 J hf ?_ hro;simp only[ntmps103,Ae,Aj,AK,Nat.reduceAdd,Nat.reduceSub,An,Ao,AD,At,Af,Aq];gi_wp2;go_ret;exact⟨J,J⟩
def Jk{k:IntKind}{W:World}{a:N}{l cap:Nat}{ds:Y}(h:Row k W (.slice a l cap) ds):l=ds.length∧l≤cap∧cap≤9223372036854775807∧l≤1099511627776∧
 ∀j,j<l→∃b off,a=some ⟨b,off,none⟩∧b<W.heap.size∧W.cell? ⟨b,off+j,none⟩=some (.int k (ds[j]?.getD 0:Nat)):=by
 obtain⟨a',c',e,h1,h2,h3,h4⟩:=Row.open h;cases e;exact⟨J,h1,h2,h3,h4⟩
theorem Ej{ds:Y}{j:Nat}(hj:j<ds.length)(h:ds[j]?.getD 0=0):ds[j]?=some 0:=by
 grind
def Ek(w:World)(a:N)(len cap:Nat)(ds:Y)(k:Nat)(W:World):Prop:=
 (((Boxed W w.heap.size 23 (.slice a len cap)∧Boxed W (w.heap.size+1) 23 (.slice none 0 0))∧Boxed W (w.heap.size+1+1) 23 (.slice a len cap))∧Below w.heap.size w W)∧∀j,len-k≤j→j<len→ds[j]?.getD 0=0
def El(w:World)(a:N)(len cap:Nat)(ds:Y)(c:Code)(k:Nat)(W:World):Prop:=
 (Boxed W (w.heap.size+1) 23 (.slice a (len-1-k+1) cap)∧Below w.heap.size w W)∧(c=.ret∧ds[len-1-k]?.getD 0≠0∧∀j,len-k≤j→j<len→ds[j]?.getD 0=0)
def Gl(w:World)(a:N)(len cap:Nat)(ds:Y):OwnFrom (w.heap.size+1+1+1) (Ek w a len cap ds):=
 BF (BF (BF (BF (BZ (boxed_own _ _ (fun _=>.slice a len cap)) _) (BZ (boxed_own _ _ (fun _=>.slice none 0 0)) _)) (BZ (boxed_own _ _ (fun _=>.slice a len cap)) _)) (ownFrom_below (Aa _) (by omega))) (ownFrom_pure _ _)
def Gm(w:World)(a:N)(len cap:Nat)(ds:Y)(c:Code):OwnFrom (w.heap.size+1+1+1) (El w a len cap ds c):=
 BF (BF (BZ (boxed_own _ _ (fun k=>.slice a (len-1-k+1) cap)) _) (ownFrom_below (Aa _) (by omega))) (ownFrom_pure _ _)
theorem Xt(a:N)(len cap:Nat)(ds:Y)(w:World)(h:Row .u64 w (.slice a len cap) ds):
 Calls Tryz.prog 73 #[.slice a len cap] w fun e w'=>∃u,e=.returned u∧(Row .u64 w' u (Jr ds)∧Below w.heap.size w w')∧(u=.slice none 0 0∧Jr ds=[]∨u=.slice a (Jr ds).length cap):=by
 obtain⟨hl,hcap,hcm,hlm,hc⟩:=Jk h;have HL:=Bg (p:=Hid (len=ds.length)) hl;have HC:=Bg (p:=Hid (∀j,j<len→∃b off,a=some ⟨b,off,none⟩∧b<w.heap.size∧w.cell? ⟨b,off+j,none⟩=some (.int .u64 (ds[j]?.getD 0:Nat)))) hc;clear hc hl;refine(BJ (n:=3)).1 ?_;refine BO func73 J trivial ?_ J;simp only[ntmps73,Ae,Aj,AK,Nat.reduceAdd,Nat.reduceSub,An,Ao,AD,At,Af,Aq];gi_wp2_with(refine⟨trivial,?_⟩;gi_at_call 103;refine(DH Fence.wide _ trivial J _ _ _ _).mono ?_;rintro e w' ⟨rfl,rfl⟩)
 have b0:=((BK w 23 (.slice a len cap)).alloc (.cells #[.slice none 0 0] 23)).alloc (.cells #[.slice a len cap] 23);have b1:=(BK (w.alloc (.cells #[.slice a len cap] 23)) 23 (.slice none 0 0)).alloc (.cells #[.slice a len cap] 23);have b2:=BK ((w.alloc (.cells #[.slice a len cap] 23)).alloc (.cells #[.slice none 0 0] 23)) 23 (.slice a len cap);simp only[BA]at b1 b2;have Qd:Below w.heap.size w (((w.alloc (.cells #[.slice a len cap] 23)).alloc (.cells #[.slice none 0 0] 23)).alloc (.cells #[.slice a len cap] 23)):=(((BC _ w).alloc (Aa _) _).alloc (by simp) _).alloc (by simp;omega) _;have hN:(((w.alloc (.cells #[.slice a len cap] 23)).alloc (.cells #[.slice none 0 0] 23)).alloc (.cells #[.slice a len cap] 23)).heap.size=w.heap.size+1+1+1:=by simp
 refine J7 J (by omega) (gf:=126) (lb:=#[.pointer (some ⟨w.heap.size+1+1,0,none⟩)]) J trivial (enters_of func126 Lz J)
  (Xe Fence.wide _ trivial J (by omega) (w.heap.size+1+1) a len cap (fun j=>ds[j]?.getD 0) hlm) (fun _=>rfl)
  (Ek w a len cap ds) (El w a len cap ds) (by rw[hN];exact Gl w a len cap ds) (fun c=>by rw[hN];exact Gm w a len cap ds c)
  ⟨⟨⟨⟨b0,b1⟩,b2⟩,Qd⟩,fun j h1 h2=>by omega⟩ ?rd
  (fun k=>{ tmps:=#[.slice a len cap,.pointer (some ⟨w.heap.size,0,none⟩),.pointer (some ⟨w.heap.size+1,0,none⟩),.int .i64 ((len:Int)-1-k),.int .u64 (ds[len-1-k]?.getD 0:Nat),.slice a len cap,.func (.func 126) #[] #[.pointer (some ⟨w.heap.size+1+1,0,none⟩)],.int .i64 ((len:Int)-1-k),.int .u64 (ds[len-1-k]?.getD 0:Nat),undef,undef,undef,undef,undef,undef],defers:=[] }) ?assign ?body ?done ?stop
 case rd=>
  rintro k W ⟨⟨⟨_,c2⟩,hB⟩,_⟩;refine⟨c2.cell,fun hk=>?_⟩;obtain⟨b,off,ea,hb,hc⟩:=HC.out (len-1-k) (by omega);exact⟨b,off,ea,(hB.cell (p:=⟨b,off+(len-1-k),none⟩) hb).trans hc⟩
 case assign=>
  intro l k W K hK;unfold Yl;gi_wp2;exact hK
 case body=>
  rintro l k W ⟨⟨⟨⟨c0,c1⟩,c2⟩,hB⟩,hz⟩ hk hsz;have d0:=c0.cell;have d1:=c1.cell;have f1:=c1.frozen;have HZ:=Bg (p:=Hid (∀j,len-k≤j→j<len→ds[j]?.getD 0=0)) hz;clear hz;have e1:((len:Int)-1-k)=((len-1-k:Nat):Int):=by omega
  rw[e1];by_cases hx:ds[len-1-k]?.getD 0=0
  · have HX:=Bg (p:=Hid (ds[len-1-k]?.getD 0=0)) hx;rw[hx];clear hx e1;gi_wp2;refine⟨KeepsFrom.refl _ _,⟨⟨⟨c0,c1⟩,c2⟩,hB⟩,fun j h1 h2=>?_⟩;by_cases hj:j=len-1-k
    · rw[hj];exact HX.out
    · exact HZ.out j (by omega) h2
  · have hm:len-1-k<len:=by omega
    have Qc:(((ds[len-1-k]?.getD 0:Nat):Int) != 0)=true:=by rw[Bi];omega
    have HX:=Bg (p:=Hid (ds[len-1-k]?.getD 0≠0)) hx;clear hx e1;have HK:=Bg (p:=Hid (ds[len-1-k]?.getD 0≠0∧∀j,len-k≤j→j<len→ds[j]?.getD 0=0)) ⟨HX.out,HZ.out⟩;clear HX HZ;generalize ds[len-1-k]?.getD 0=x at Qc ⊢;generalize hm0:len-1-k=m at hm ⊢;have Qe:=Bg (p:=Hid (len-1-k=m)) hm0;clear hm0;gi_wp2;refine⟨(BL _ _ _).from _,⟨?_,hB.setCell (p:=⟨w.heap.size+1,0,none⟩) (by simp) _⟩,J,HK.out⟩;rw[Qe.out];exact c1.set _
 case done=>
  rintro D W hD ⟨⟨⟨⟨c0,c1⟩,c2⟩,hB⟩,hz⟩ hK;have d1:=c1.cell;have f1:=c1.frozen;have HZ:=Bg (p:=Hid (∀j,len-len≤j→j<len→ds[j]?.getD 0=0)) hz;clear hz;gi_wp2;have Qb:=(BL W ⟨w.heap.size+1,0,none⟩ (.slice none 0 0)).same D _ hK J;refine⟨by simp,.inl ⟨_,_,J,BS Qb,?_⟩⟩;have b1':=(c1.set (.slice none 0 0)).kept (BR _ D (.deferred none)) (fun e=>by grind);have q:=b1'.cell;have e0:=GN ds fun j hj=>Ej hj (HZ.out j (by omega) (by rw[HL.out];exact hj));refine⟨.slice none 0 0,by simp[results,results73,go_sem,q],_,J,⟨?_,?_⟩,AE ⟨J,e0⟩⟩
  · rw[e0];exact Row.nil _ _
  · exact(hB.setCell (p:=⟨w.heap.size+1,0,none⟩) (by simp) _).trans (belowK_b (w:=w) (Aa _) _ D _ _ (by simp at hD;omega) Qb J J)
 case stop=>
  rintro D c k W hD hk ⟨⟨c1,hB⟩,rfl,hx,hz⟩ hK;have d1:=c1.cell;have HZ:=Bg (p:=Hid (ds[len-1-k]?.getD 0≠0∧∀j,len-k≤j→j<len→ds[j]?.getD 0=0)) ⟨hx,hz⟩;clear hz hx;gi_wp2;refine⟨by simp,.inl ⟨_,_,J,BS hK,?_⟩⟩;have b1':=c1.kept (BR _ D (.deferred none)) (fun e=>by grind);have q:=b1'.cell;have Qa:Below w.heap.size w (W.putObj D (.deferred none)):=hB.trans (belowK_b (w:=w) (Aa _) _ D _ _ (by simp at hD;omega) hK J J);have hlen:=HL.out;have e:Jr ds=ds.take (len-1-k+1):=by
   refine GM ds (len-1-k) (by omega) ?_ ?_
   · intro h0;apply HZ.out.1;rw[h0];rfl
   · intro j h1 h2;exact Ej h2 (HZ.out.2 j (by omega) (by omega))
  have el:(ds.take (len-1-k+1)).length=len-1-k+1:=by rw[Ah];omega
  refine⟨.slice a (len-1-k+1) cap,by simp[results,results73,go_sem,q],_,J,⟨?_,Qa⟩,A6 (by rw[e,el])⟩;rw[e];have hr:=Row.below h Qa;obtain⟨_,_,_,_,hcs⟩:=Jk hr;obtain⟨b,off,ea,hb,_⟩:=hcs (len-1-k) (by omega);have ht:CO .u64 (W.putObj D (.deferred none)) b:=by
   obtain⟨b2,o2,e2,ht⟩:=hr.typ (by omega);rw[ea]at e2;cases e2;exact ht
  refine⟨a,cap,by rw[el],by omega,hcm,by omega,A6 ⟨b,off,ea,ht,fun j hj=>?_⟩⟩;rw[el]at hj;obtain⟨b',off',ea',_,hc'⟩:=hcs j (by omega);rw[ea]at ea';cases ea';grind
theorem JQ(v:Value)(ds:Y)(w:World)(h:Row .u64 w v ds):
 Calls Tryz.prog 73 #[v] w fun e w'=>∃u,e=.returned u∧Row .u64 w' u (Jr ds)∧Below w.heap.size w w':=by
 obtain⟨a,cap,rfl,h1⟩:=id h;refine(Xt a _ cap ds w h).mono ?_;rintro e w' ⟨u,rfl,⟨h2,h3⟩,_⟩;grind
def Gn(F:Fence)(n:Nat)(hf:F.fn 110)(hro:F.round=none)(hn:1≤n)(Bs:Nat)(a:N)(len cap:Nat)(zs:Nat→Nat)(hlen:len≤4398046511104):
 Dm F n Tryz.prog 110 #[.pointer (some ⟨Bs,0,none⟩)] len (Yl len zs) (Ei Bs a len cap zs):=fun l J Jx W hR hY h0=>by
 have hbs:=(hR 0 W h0).1;refine callsIn_of_wp func110 rfl hf ?_ hro;simp only[ntmps110,Ae,Aj,AK,Nat.reduceAdd,Nat.reduceSub,An,Ao,AD,At,Af,Aq];gi_wp2;gi_loopw [3] (fun i wr=>∃k:Nat,k≤len∧i=.int .i64 ((len:Int)-1-k)∧J k wr) (fun i _=>(intOf i+1).toNat)
 case atStart=>exact⟨0,AP _,by simp,h0⟩
 case round=>
  obtain⟨k,hk,rfl,hJ⟩:=hrel;obtain⟨hb2,hc2⟩:=hR k wr hJ;by_cases hlt:k<len
  · obtain⟨b,off,rfl,hc⟩:=hc2 hlt;obtain⟨fn,tmps,assign,body,hy,hRd⟩:=hY k wr hJ hlt;have e1:((len:Int)-1-k)=((len-1-k:Nat):Int):=by omega
    have e2:len-1-k<len:=by omega
    dsimp only[Yl]at hy;rw[e1]at hy ⊢;generalize hm:len-1-k=m at *;have HM:=Bg (p:=Hid (len-1-k=m)) hm;clear hm e1;gi_wp2;refine hRd.mono ?_;rintro e W3 (⟨rfl,hJ3⟩|⟨rfl,hJx3⟩)
    · gi_wp2;go_roundw
      case rel=>exact⟨k+1,by omega,by(congr 1;have:=HM.out;omega),hJ3⟩
      case measure=>simp[intOf]
    · gi_wp2;refine BB (results_none rfl _ _ _) rfl ?_;exact⟨⟨_,rfl⟩,.inr ⟨k,hlt,hJx3⟩⟩
  · obtain rfl:k=len:=by omega
    gi_wp2;go_end0;exact⟨⟨_,rfl⟩,.inl hJ⟩
def Gp(F:Fence)(n:Nat)(hf:F.fn 80)(hro:F.round=none)(a:N)(len cap:Nat)(w:World):
 CallsIn F n Tryz.prog 80 #[.slice a len cap] w fun e w'=>e=.returned (.func (.func 110) #[] #[.pointer (some ⟨w.heap.size,0,none⟩)])∧w'=w.alloc (.cells #[.slice a len cap] 22):=by
 refine callsIn_of_wp func80 J hf ?_ hro;simp only[ntmps80,Ae,Aj,AK,Nat.reduceAdd,Nat.reduceSub,An,Ao,AD,At,Af,Aq];gi_wp2;go_ret;exact⟨J,J⟩

