import Derived.RangeFuncNested
import Derived.RangeFuncBound
import Derived.RangeFuncCalls
import Derived.RangeFuncLeaves
import Derived.RangeFuncBox
import Derived.Shelf.Abstract
import Derived.Shelf.RegionOpen
import Derived.WalkKit
import Derived.WalkSpells
import Derived.WalkLawsBesides
import Derived.OwnWalkIn
import Derived.TacticsInMore
import Derived.LoopNIn
import Derived.LoopIn
import Derived.Maps.AppendAt
import Derived.Deep.QuietTactic
import Derived.BigQuiet
import Derived.Test.YtcahejkcdcjjgaaGreatDoorK02
import Derived.Test.YtcahejkcdcjjgaaGreatDoorProg
set_option maxRecDepth 100000
set_option maxHeartbeats 16000000
namespace Go.Proofs.YtcahejkcdcjjgaaGreatDoor
open Go.RowKit Go.Shelf
abbrev tyI (k:IntKind):TypeId:=match k with | .i64=>3 | _=>163
def Typ (k:IntKind) (W:World) (b:Nat):Prop:=∃ cs m,W.heap[b]?=some (.cells cs (tyI k) m)
theorem Typ.lt {k:IntKind} {W:World} {b:Nat} (h:Typ k W b):b<W.heap.size:=by obtain ⟨cs,m,h⟩:=h;exact (Array.getElem?_eq_some_iff.1 h).1
theorem Typ.of {k:IntKind} {W W':World} {b:Nat} (h:Typ k W b) (e:W'.heap[b]?=W.heap[b]?):Typ k W' b:=by obtain ⟨cs,m,h⟩:=h;exact ⟨cs,m,e.trans h⟩
theorem Typ.below {k:IntKind} {W W':World} {b:Nat} (h:Typ k W b) (hb:Below W.heap.size W W'):Typ k W' b:=h.of (hb.block b h.lt)
theorem Typ.set {k:IntKind} {W:World} {b:Nat} (h:Typ k W b) (p:Addr) (u:Value):Typ k (W.setCell p u) b:=by
 by_cases e:b=p.block
 · obtain ⟨cs,m,h⟩:=h;obtain ⟨hlt,hk⟩:=Array.getElem?_eq_some_iff.1 h;subst e;refine ⟨if p.spot.isSome=true then cs else cs.setIfInBounds p.off u,m,?_⟩;show (W.heap.modify p.block _)[p.block]?=_;rw [Array.getElem?_eq_getElem (by rw [Array.size_modify];exact hlt),Array.getElem_modify_self,hk]
 · exact h.of (Below.heap_setCell W p u b e)
def Row (k:IntKind) (W:World) (v:Value) (ds:List Nat):Prop:=
 ∃ a cap,v=.slice a ds.length cap∧ds.length≤cap∧cap≤9223372036854775807∧ds.length≤1099511627776∧
  (ds=[]∨∃ b off,a=some ⟨b,off,none⟩∧Typ k W b∧∀ j,j<ds.length→W.cell? ⟨b,off+j,none⟩=some (.int k (ds[j]?.getD 0:Nat)))
theorem Row.below {k:IntKind} {W W':World} {v:Value} {ds:List Nat} (h:Row k W v ds) (hb:Below W.heap.size W W'):Row k W' v ds:=by
 obtain ⟨a,cap,e,h1,h2,h2',h3⟩:=h;refine ⟨a,cap,e,h1,h2,h2',?_⟩;rcases h3 with h3 | ⟨b,off,ea,hlt,hc⟩
 · exact Or.inl h3
 · exact Or.inr ⟨b,off,ea,hlt.below hb,fun j hj=>(hb.cell (p:=⟨b,off+j,none⟩) hlt.lt).trans (hc j hj)⟩
theorem Row.typ {k:IntKind} {W:World} {a:Option Addr} {l cap:Nat} {ds:List Nat} (h:Row k W (.slice a l cap) ds) (h0:0<l):∃ b off,a=some ⟨b,off,none⟩∧Typ k W b:=by
 obtain ⟨a',cap',e,_,_,_,h3⟩:=h;cases e;rcases h3 with h3 | ⟨b,off,ea,ht,_⟩
 · rw [h3] at h0;simp at h0
 · exact ⟨b,off,ea,ht⟩
theorem Row.nil (k:IntKind) (W:World):Row k W (.slice none 0 0) []:=⟨none,0,rfl,Nat.le_refl _,by omega,by simp,Or.inl rfl⟩
theorem Row.open {k:IntKind} {W:World} {v:Value} {ds:List Nat} (h:Row k W v ds):∃ a cap,v=.slice a ds.length cap∧ds.length≤cap∧cap≤9223372036854775807∧ds.length≤1099511627776∧
 Hid (∀ j,j<ds.length→∃ b off,a=some ⟨b,off,none⟩∧b<W.heap.size∧W.cell? ⟨b,off+j,none⟩=some (.int k (ds[j]?.getD 0:Nat))):=by
 obtain ⟨a,cap,e,h1,h2,h2',h3⟩:=h;refine ⟨a,cap,e,h1,h2,h2',fun j hj=>?_⟩;rcases h3 with h3 | ⟨b,off,ea,hb,hc⟩
 · rw [h3] at hj;simp at hj
 · exact ⟨b,off,ea,hb.lt,hc j hj⟩
theorem Tryz.infoU64:(Tryz.prog.info? 163).map (fun i=>(i.zero,i.size,i.bytes))=some (some (.int .u64 0),1,8):=by kernel_rfl
def cellsOf (k:IntKind) (ds:List Nat):List Value:=ds.map (fun d=>Value.int k (d:Nat))
theorem Jig (k:IntKind) (ds:List Nat) (d:Nat):cellsOf k (ds++[d])=cellsOf k ds++[.int k (d:Nat)]:=by simp [cellsOf]
theorem Yn (k:IntKind) (ds:List Nat):(cellsOf k ds).length=ds.length:=by simp [cellsOf]
def lenV:Value→Nat | .slice _ k _=>k | _=>0
def RN (W:World) (v:Value) (n:Nat):Prop:=Row .i64 W v (Jd 10000 n)
def Jc0 (da db:List Nat) (k c:Nat) (acc:List Nat):Prop:=
 acc.length=k∧Dig 10000 acc∧c≤1∧val 10000 acc+10000 ^ k*c=val 10000 (da.take k)+val 10000 (db.take k)∧
  (k≤max da.length db.length∨(k=max da.length db.length+1∧c=0∧10000 ^ (k - 1)≤val 10000 acc))
theorem Jc0.start (da db:List Nat):Jc0 da db 0 0 []:=⟨rfl,Dig.nil _,by omega,by simp [val],Or.inl (by omega)⟩
theorem Jc0.step {da db:List Nat} {k c:Nat} {acc:List Nat} (h:Jc0 da db k c acc) (xa:Dig 10000 da) (xb:Dig 10000 db) (hgo:k<da.length∨k<db.length∨0<c) :
 Jc0 da db (k+1) ((c+(da[k]?.getD 0+db[k]?.getD 0)) / 10000) (acc++[(c+(da[k]?.getD 0+db[k]?.getD 0)) % 10000]):=by
 obtain ⟨hl,hd,hc,hv,hk⟩:=h;have h1:=xa.getD (by omega) k;have h2:=xb.getD (by omega) k;subst hl;refine ⟨by simp,hd.append (Dig.cons (Nat.mod_lt _ (by omega)) (Dig.nil _)),by omega,?_,?_⟩
 · rw [Jos acc c _ _ hv,Jl,Jl,Nat.mul_add];omega
 · rcases hk with hk | ⟨hk,h0,_⟩
   · by_cases hk2:acc.length<max da.length db.length
     · exact Or.inl (by omega)
     · have e1:da[acc.length]?.getD 0=0:=by rw [List.getElem?_eq_none (by omega)];rfl
       have e2:db[acc.length]?.getD 0=0:=by rw [List.getElem?_eq_none (by omega)];rfl
       have e3:c=1:=by omega
       rw [e1,e2,e3];refine Or.inr ⟨by omega,by omega,?_⟩;rw [Yb];simp
   · omega
theorem Jc0.done {m n k:Nat} {acc:List Nat} (h:Jc0 (Jd 10000 m) (Jd 10000 n) k 0 acc) (h1:(Jd 10000 m).length≤k) (h2:(Jd 10000 n).length≤k):acc=Jd 10000 (m+n):=by
 obtain ⟨hl,hd,hc,hv,hk⟩:=h;rw [List.take_of_length_le h1,List.take_of_length_le h2,Jn (by omega),Jn (by omega)] at hv;refine Jot (by omega) hd (by omega) ?_ (by omega);rcases hk with hk | ⟨_,_,hk⟩
 · exact Or.inl (by omega)
 · exact Or.inr (by rw [hl];exact hk)
def Ja7 (da db:List Nat) (k:Nat) (c:Int) (acc:List Nat):Prop:=
 acc.length=k∧Dig 10000 acc∧(c=0∨c=-1)∧(val 10000 acc:Int)+val 10000 (db.take k)=val 10000 (da.take k) - (10000 ^ k:Nat)*c
theorem Ja7.start (da db:List Nat):Ja7 da db 0 0 []:=⟨rfl,Dig.nil _,Or.inl rfl,by simp [val]⟩
theorem Ja7.step {da db:List Nat} {k:Nat} {c:Int} {acc:List Nat} (h:Ja7 da db k c acc) (xa:Dig 10000 da) (xb:Dig 10000 db) (c':Int) (d:Nat) (hd:(d:Int)=c+da[k]?.getD 0 - db[k]?.getD 0 - 10000*c') (hd2:d<10000) :
 Ja7 da db (k+1) c' (acc++[d]):=by
 obtain ⟨hl,hg,hc,hv⟩:=h;have h1:=xa.getD (by omega) k;have h2:=xb.getD (by omega) k;subst hl;refine ⟨by simp,hg.append (Dig.cons hd2 (Dig.nil _)),by omega,?_⟩;rw [Yb,Jl,Jl];generalize hq:(10000 ^ acc.length:Nat)=q at hv ⊢;have e:(10000 ^ (acc.length+1):Nat)=q*10000:=by rw [Nat.pow_succ,hq]
 rw [e];have e2:((q*d:Nat):Int)=(q:Int)*c+q*(da[acc.length]?.getD 0:Nat) - q*(db[acc.length]?.getD 0:Nat) - q*(10000*c'):=by
  rw [Int.natCast_mul,hd,Int.mul_sub,Int.mul_sub,Int.mul_add]
 have e3:((q*10000:Nat):Int)*c'=q*(10000*c'):=by rw [Int.natCast_mul,Int.mul_assoc];rfl
 rw [e3];generalize (q:Int)*(10000*c')=z at *;simp only [Int.natCast_add,Int.natCast_mul] at *;omega
theorem Ja7.done {m n:Nat} {c:Int} {acc:List Nat} (hmn:n≤m) (h:Ja7 (Jd 10000 m) (Jd 10000 n) (Jd 10000 m).length c acc):Jy acc=Jd 10000 (m - n):=by
 obtain ⟨hl,hd,hc,hv⟩:=h;have hle:(Jd 10000 n).length≤(Jd 10000 m).length:=by
  rcases Nat.lt_or_ge (Jd 10000 m).length (Jd 10000 n).length with g | g
  · have:=YS (by omega) g;omega
  · exact g
 rw [List.take_of_length_le (Nat.le_refl _),List.take_of_length_le hle,Jn (by omega),Jn (by omega)] at hv;have h1:=J2 hd;rw [hl] at h1;have hv2:val 10000 acc=m - n:=by
  rcases hc with rfl | rfl
  · omega
  · generalize (10000 ^ (Jd 10000 m).length:Nat)=q at hv h1;omega
 rw [←JQ (by omega) hd,hv2]
def Jnc (F:Fence) (n:Nat) (P:Program) (g:Nat) (lb:Array Value) (N:Nat) (args:Nat→Array Value) (Rd:Nat→World→Prop):Prop:=
 ∀ (l:Nat) (J Jx:Nat→World→Prop) (W:World),(∀ k W1,J k W1→Rd k W1)→
  (∀ k W1,J k W1→k<N→YieldAt F (n - 1) P l (args k) W1 fun e W'=>(e=.returned (.bool true)∧J (k+1) W')∨(e=.returned (.bool false)∧Jx k W'))→
  J 0 W→CallsIn F n P g (#[.func (.yield l) #[] #[]]++lb) W fun e W'=>(∃ v,e=.returned v)∧(J N W'∨∃ k,k<N∧Jx k W')
def roundPost (B:Nat) (I:Nat→World→Prop) (Ix:Code→Nat→World→Prop) (k:Nat) (W:World):Exit→Act→World→Prop
 | .normal,_,W'=>KeepsFrom B W W'∧I (k+1) W'
 | .ret,_,W'=>KeepsFrom B W W'∧Ix .ret k W'
 | .exit id,_,W'=>KeepsFrom B W W'∧Ix (.exit id) k W'
 | .goto t,_,W'=>KeepsFrom B W W'∧Ix (.goto t) k W'
 | .panic _,_,_=>False
 | .outgrown,_,_=>False
variable {F:Fence} {n:Nat} {P:Program}
theorem Ys {g:Operand} {ps:Array Tmp} {assign body:Code} {Q:Exit→Act→World→Prop} {a:Act} {w:World}
 (hro:F.round=none) (h1:1≤n) {gf:Nat} {lb:Array Value} (hg:a.eval g=.func (.func gf) #[] lb) (hFg:F.fn gf) (eg:∀ args w,(callFunc gf args).run P w=.ok (.enter gf args) w)
 {N:Nat} {args:Nat→Array Value} {Rd:Nat→World→Prop} (hseq:Jnc F (n - 1) P gf lb N args Rd) (hps:∀ k,(args k).size=ps.size)
 (I:Nat→World→Prop) (Ix:Code→Nat→World→Prop) (hI:OwnFrom w.heap.size I) (hIx:∀ c,OwnFrom w.heap.size (Ix c)) (h0:I 0 w) (hRd:∀ k W,I k W→Rd k W) (a₁:Nat→Act)
 (hassign:∀ (l k:Nat) (W:World) (K:Act→World→Prop),K (a₁ k) W→
  assign.wpIn (F.inRound l) (n - 1 - 1) P (Exit.then K (fun _ _ _=>False)) { tmps:=(ps.zip (args k)).foldl (fun t (p,v)=>t.setIfInBounds p v) a.tmps,defers:=[] } W)
 (hbody:∀ (l k:Nat) (W:World),I k W→k<N→w.heap.size<W.heap.size→body.wpIn (F.inRound l) (n - 1 - 1) P (roundPost w.heap.size I Ix k W) (a₁ k) W)
 (hdone:∀ (D:Nat) (W:World),w.heap.size≤D→I N W→W.heap[D]?=some (.deferred (some []))→Q .normal { a with defers:={ target:=.collected D,args:=#[] }::a.defers } W)
 (hstop:∀ (D:Nat) (c:Code) (k:Nat) (W:World),w.heap.size≤D→k<N→Ix c k W→W.heap[D]?=some (.deferred (some []))→c.wpIn F n P Q { a with defers:={ target:=.collected D,args:=#[] }::a.defers } W) :
 (Code.rangeFunc g ps assign body).wpIn F n P Q a w:=by
 refine wpIn_rangeFunc fun fn hfn=>?_;rw [hro];obtain ⟨rc,hrc⟩:∃ rc:LoopState→Option Code→Loop,rc=fun st pe=>{ state:=st,pending:=pe,fn,tmps:=a.tmps,params:=ps,assign,body,defers:=w.heap.size }:=⟨_,rfl⟩;obtain ⟨V,hV⟩:∃ V,(w.alloc (.deferred (some []))).alloc (.loop (rc .ready none))=V:=⟨_,rfl⟩;have vL:V.heap[w.heap.size+1]?=some (.loop (rc .ready none)):=by
  rw [←hV];have:=World.alloc_heap_new (w.alloc (.deferred (some []))) (.loop (rc .ready none));rwa [World.size_alloc] at this
 have vD:V.heap[w.heap.size]?=some (.deferred (some [])):=by
  rw [←hV];exact (Below.heap_alloc _ _ _ (by simp)).trans (World.alloc_heap_new w _)
 have vI:I 0 V:=by rw [←hV];exact hI.alloc _ (hI.alloc _ h0)
 refine ⟨w.heap.size+1,[{ target:=.collected w.heap.size,args:=#[] }],V,{ target:=.fn (.func gf) lb,args:=#[.func (.yield (w.heap.size+1)) #[] #[]] },V,gf,
  #[.func (.yield (w.heap.size+1)) #[] #[]]++lb,V,?_,?_,?_,?_,fun _=>h1,?_⟩
 · rw [←hV,hrc];exact run_enterLoop_outer _ _ _ _ _
 · simp only [resolve,hg];simp [go_sem]
 · intro f' hf';simp [Target.leads] at hf';subst hf';exact hFg
 · simp [invoke,go_sem,eg]
 refine (hseq (w.heap.size+1)
  (fun k W=>I k W∧W.heap[w.heap.size+1]?=some (.loop (rc .ready none))∧W.heap[w.heap.size]?=some (.deferred (some [])))
  (fun k W=>∃ c,Ix c k W∧W.heap[w.heap.size+1]?=some (.loop (rc .done (some c)))∧W.heap[w.heap.size]?=some (.deferred (some [])))
  V (fun k W h=>hRd k W h.1) ?_ ⟨vI,vL,vD⟩).mono ?_
 · rintro k W ⟨hi,hl,hk⟩ hlt;have hsz:w.heap.size+1<W.heap.size:=(Array.getElem?_eq_some_iff.1 hl).1;have hy:=run_yield (P:=P) (args:=args k) hl (by rw [hrc];exact hps k);rw [hrc] at hy;refine ⟨fn,_,assign,body,hy,roundIn_of_wpIn hfn (hassign _ k W _ ⟨_,run_beginRound hl (by rw [hrc]),?_⟩)⟩;obtain ⟨W2,hW2⟩:∃ W2,W.putObj (w.heap.size+1) (.loop { rc .ready none with state:=.busy })=W2:=⟨_,rfl⟩;rw [hW2];have hl2:W2.heap[w.heap.size+1]?=some (.loop { rc .ready none with state:=.busy }):=by rw [←hW2];exact World.putObj_heap_same hsz
   have hk2:W2.heap[w.heap.size]?=some (.deferred (some [])):=by rw [←hW2];exact (World.putObj_heap_other (by omega)).trans hk
   have hi2:I k W2:=by rw [←hW2];exact hI.putObj _ hi (by omega) hl rfl
   have hs2:w.heap.size<W2.heap.size:=(Array.getElem?_eq_some_iff.1 hk2).1;have fin:∀ (jump:Option Code) (W3:World),KeepsFrom w.heap.size W2 W3→
    (Instr.endRound (w.heap.size+1) jump).run P W3=.ok (.bool jump.isNone) (W3.putObj (w.heap.size+1) (.loop (rc (if jump.isNone then .ready else .done) jump)))∧
    W3.heap[w.heap.size+1]?=some (.loop { rc .ready none with state:=.busy })∧
    (W3.putObj (w.heap.size+1) (.loop (rc (if jump.isNone then .ready else .done) jump))).heap[w.heap.size+1]?=some (.loop (rc (if jump.isNone then .ready else .done) jump))∧
    (W3.putObj (w.heap.size+1) (.loop (rc (if jump.isNone then .ready else .done) jump))).heap[w.heap.size]?=some (.deferred (some [])):=fun jump W3 hk3=>by
    have hl3:=hk3.same _ _ (by omega) hl2 rfl;have hr:=run_endRound (P:=P) jump hl3;rw [hrc] at hr ⊢;exact ⟨hr,by rw [hrc] at hl3;exact hl3,World.putObj_heap_same (Array.getElem?_eq_some_iff.1 hl3).1,(World.putObj_heap_other (by omega)).trans (hk3.same _ _ (Nat.le_refl _) hk2 rfl)⟩
   refine wpIn_mono (hbody _ k W2 hi2 hlt hs2) fun e a3 W3 hp=>?_;cases e with
   | normal=>
    obtain ⟨hr,hl3,hl4,hk4⟩:=fin none W3 hp.1;exact ⟨_,_,hr,.inl ⟨rfl,hI.putObj _ hp.2 (by omega) hl3 rfl,hl4,hk4⟩⟩
   | ret=>
    obtain ⟨hr,hl3,hl4,hk4⟩:=fin (some .ret) W3 hp.1;exact ⟨_,_,hr,.inr ⟨rfl,.ret,(hIx _).putObj _ hp.2 (by omega) hl3 rfl,hl4,hk4⟩⟩
   | exit id=>
    obtain ⟨hr,hl3,hl4,hk4⟩:=fin (some (.exit id)) W3 hp.1;exact ⟨_,_,hr,.inr ⟨rfl,.exit id,(hIx _).putObj _ hp.2 (by omega) hl3 rfl,hl4,hk4⟩⟩
   | goto t=>
    obtain ⟨hr,hl3,hl4,hk4⟩:=fin (some (.goto t)) W3 hp.1;exact ⟨_,_,hr,.inr ⟨rfl,.goto t,(hIx _).putObj _ hp.2 (by omega) hl3 rfl,hl4,hk4⟩⟩
   | panic ch=>exact hp.elim
   | outgrown=>exact hp.elim
 · rintro e W2 ⟨⟨v,rfl⟩,(⟨hi,hl,hk⟩ | ⟨k,hk0,c,hi,hl,hk⟩)⟩
   · exact ⟨none,_,by have:=run_endLoop (P:=P) hl (by rw [hrc];simp);rw [hrc] at this;exact this,hdone _ _ (Nat.le_refl _) (hI.putObj _ hi (by omega) hl rfl) ((World.putObj_heap_other (by omega)).trans hk)⟩
   · exact ⟨some c,_,by have:=run_endLoop (P:=P) hl (by rw [hrc];simp);rw [hrc] at this;exact this,hstop _ c k _ (Nat.le_refl _) hk0 ((hIx c).putObj _ hi (by omega) hl rfl) ((World.putObj_heap_other (by omega)).trans hk)⟩
end Go.Proofs.YtcahejkcdcjjgaaGreatDoor
namespace Go.Proofs.YtcahejkcdcjjgaaGreatDoor
open Go.RowKit Go.Shelf
attribute [local go_sem] Oper.semAt_some
def Jsk (Bs:Nat) (a:Option Addr) (len cap:Nat) (zs:Nat→Nat) (k:Nat) (W:World):Prop:=
 W.cell? ⟨Bs,0,none⟩=some (.slice a len cap)∧(k<len→∃ b off,a=some ⟨b,off,none⟩∧W.cell? ⟨b,off+(len - 1 - k),none⟩=some (.int .u64 (zs (len - 1 - k):Nat)))
def Xl (len:Nat) (zs:Nat→Nat) (k:Nat):Array Value:=#[.int .i64 ((len:Int) - 1 - k),.int .u64 (zs (len - 1 - k):Nat)]
theorem Jbt (F:Fence) (n:Nat) (hf:F.fn 174) (hro:F.round=none) (hn:1≤n) (Bs:Nat) (a:Option Addr) (len cap:Nat) (zs:Nat→Nat) (hlen:len≤1099511627776) :
 Jnc F n Tryz.prog 174 #[.pointer (some ⟨Bs,0,none⟩)] len (Xl len zs) (Jsk Bs a len cap zs):=fun l J Jx W hR hY h0=>by
 have hbs:=(hR 0 W h0).1;refine callsIn_of_wp Tryz.func174 rfl hf ?_ hro;simp only [Tryz.ntmps174,List.size_toArray,List.length_cons,List.length_nil,Nat.reduceAdd,Nat.reduceSub,Array.replicate_succ,Array.replicate_zero,List.push_toArray,List.append_toArray,List.nil_append,List.cons_append];gi_wp2;gi_loopw [3] (fun i wr=>∃ k:Nat,k≤len∧i=.int .i64 ((len:Int) - 1 - k)∧J k wr) (fun i _=>(intOf i+1).toNat)
 case atStart=>exact ⟨0,Nat.zero_le _,by simp,h0⟩
 case round=>
  obtain ⟨k,hk,rfl,hJ⟩:=hrel;obtain ⟨hb2,hc2⟩:=hR k wr hJ;by_cases hlt:k<len
  · obtain ⟨b,off,rfl,hc⟩:=hc2 hlt;obtain ⟨fn,tmps,assign,body,hy,hRd⟩:=hY k wr hJ hlt;have e1:((len:Int) - 1 - k)=((len - 1 - k:Nat):Int):=by omega
    have e2:len - 1 - k<len:=by omega
    dsimp only [Xl] at hy;rw [e1] at hy ⊢;generalize hm:len - 1 - k=m at *;have HM:=Hid.out (p:=Hid (len - 1 - k=m)) hm;clear hm e1;gi_wp2;refine hRd.mono ?_;rintro e W3 (⟨rfl,hJ3⟩ | ⟨rfl,hJx3⟩)
    · gi_wp2;go_roundw
      case rel=>exact ⟨k+1,by omega,by (congr 1;have:=HM.out;omega),hJ3⟩
      case measure=>simp [intOf]
    · gi_wp2;refine bodyPost_ret (results_none rfl _ _ _) rfl ?_;exact ⟨⟨_,rfl⟩,.inr ⟨k,hlt,hJx3⟩⟩
  · obtain rfl:k=len:=by omega
    gi_wp2;go_end0;exact ⟨⟨_,rfl⟩,.inl hJ⟩
theorem Jfl (F:Fence) (n:Nat) (hf:F.fn 147) (hro:F.round=none) (a:Option Addr) (len cap:Nat) (w:World) :
 CallsIn F n Tryz.prog 147 #[.slice a len cap] w fun e w'=>e=.returned (.func (.func 174) #[] #[.pointer (some ⟨w.heap.size,0,none⟩)])∧w'=w.alloc (.cells #[.slice a len cap] 34):=by
 refine callsIn_of_wp Tryz.func147 rfl hf ?_ hro;simp only [Tryz.ntmps147,List.size_toArray,List.length_cons,List.length_nil,Nat.reduceAdd,Nat.reduceSub,Array.replicate_succ,Array.replicate_zero,List.push_toArray,List.append_toArray,List.nil_append,List.cons_append];gi_wp2;go_ret;exact ⟨rfl,rfl⟩
theorem Jr {k:IntKind} {W:World} {a:Option Addr} {l cap:Nat} {ds:List Nat} (h:Row k W (.slice a l cap) ds):l=ds.length∧l≤cap∧cap≤9223372036854775807∧l≤1099511627776∧
 ∀ j,j<l→∃ b off,a=some ⟨b,off,none⟩∧b<W.heap.size∧W.cell? ⟨b,off+j,none⟩=some (.int k (ds[j]?.getD 0:Nat)):=by
 obtain ⟨a',c',e,h1,h2,h3,h4⟩:=Row.open h;cases e;exact ⟨rfl,h1,h2,h3,h4⟩
theorem Jhh {ds:List Nat} {j:Nat} (hj:j<ds.length) (h:ds[j]?.getD 0=0):ds[j]?=some 0:=by
 rw [List.getElem?_eq_getElem hj] at h ⊢;exact congrArg some h
def Jta (w:World) (a:Option Addr) (len cap:Nat) (ds:List Nat) (k:Nat) (W:World):Prop:=
 (((Boxed W w.heap.size 34 (.slice a len cap)∧Boxed W (w.heap.size+1) 34 (.slice none 0 0))∧Boxed W (w.heap.size+1+1) 34 (.slice a len cap))∧Below w.heap.size w W)∧∀ j,len - k≤j→j<len→ds[j]?.getD 0=0
def Jtb (w:World) (a:Option Addr) (len cap:Nat) (ds:List Nat) (c:Code) (k:Nat) (W:World):Prop:=
 (Boxed W (w.heap.size+1) 34 (.slice a (len - 1 - k+1) cap)∧Below w.heap.size w W)∧(c=.ret∧ds[len - 1 - k]?.getD 0≠0∧∀ j,len - k≤j→j<len→ds[j]?.getD 0=0)
theorem Jo0 (w:World) (a:Option Addr) (len cap:Nat) (ds:List Nat):OwnFrom (w.heap.size+1+1+1) (Jta w a len cap ds):=
 OwnFrom.and (OwnFrom.and (OwnFrom.and (OwnFrom.and (Own.from (boxed_own _ _ (fun _=>.slice a len cap)) _) (Own.from (boxed_own _ _ (fun _=>.slice none 0 0)) _)) (Own.from (boxed_own _ _ (fun _=>.slice a len cap)) _)) (ownFrom_below (Nat.le_refl _) (by omega))) (ownFrom_pure _ _)
theorem Jo1 (w:World) (a:Option Addr) (len cap:Nat) (ds:List Nat) (c:Code):OwnFrom (w.heap.size+1+1+1) (Jtb w a len cap ds c):=
 OwnFrom.and (OwnFrom.and (Own.from (boxed_own _ _ (fun k=>.slice a (len - 1 - k+1) cap)) _) (ownFrom_below (Nat.le_refl _) (by omega))) (ownFrom_pure _ _)
theorem Jcj (a:Option Addr) (len cap:Nat) (ds:List Nat) (w:World) (h:Row .u64 w (.slice a len cap) ds) :
 Calls Tryz.prog 132 #[.slice a len cap] w fun e w'=>∃ u,e=.returned u∧(Row .u64 w' u (Jy ds)∧Below w.heap.size w w')∧(u=.slice none 0 0∧Jy ds=[]∨u=.slice a (Jy ds).length cap):=by
 obtain ⟨hl,hcap,hcm,hlm,hc⟩:=Jr h;have HL:=Hid.out (p:=Hid (len=ds.length)) hl;have HC:=Hid.out (p:=Hid (∀ j,j<len→∃ b off,a=some ⟨b,off,none⟩∧b<w.heap.size∧w.cell? ⟨b,off+j,none⟩=some (.int .u64 (ds[j]?.getD 0:Nat)))) hc;clear hc hl;refine (callsIn_wide (n:=3)).1 ?_;refine callsIn_of_wp_marks Tryz.func132 rfl trivial ?_ rfl;simp only [Tryz.ntmps132,List.size_toArray,List.length_cons,List.length_nil,Nat.reduceAdd,Nat.reduceSub,Array.replicate_succ,Array.replicate_zero,List.push_toArray,List.append_toArray,List.nil_append,List.cons_append];gi_wp2_with (refine ⟨trivial,?_⟩;gi_at_call 147;refine (Jfl Fence.wide _ trivial rfl _ _ _ _).mono ?_;rintro e w' ⟨rfl,rfl⟩)
 have b0:=((Boxed.new w 34 (.slice a len cap)).alloc (.cells #[.slice none 0 0] 34)).alloc (.cells #[.slice a len cap] 34);have b1:=(Boxed.new (w.alloc (.cells #[.slice a len cap] 34)) 34 (.slice none 0 0)).alloc (.cells #[.slice a len cap] 34);have b2:=Boxed.new ((w.alloc (.cells #[.slice a len cap] 34)).alloc (.cells #[.slice none 0 0] 34)) 34 (.slice a len cap);simp only [World.size_alloc] at b1 b2;have hB0:Below w.heap.size w (((w.alloc (.cells #[.slice a len cap] 34)).alloc (.cells #[.slice none 0 0] 34)).alloc (.cells #[.slice a len cap] 34)):=(((Below.refl _ w).alloc (Nat.le_refl _) _).alloc (by simp) _).alloc (by simp;omega) _;have hN:(((w.alloc (.cells #[.slice a len cap] 34)).alloc (.cells #[.slice none 0 0] 34)).alloc (.cells #[.slice a len cap] 34)).heap.size=w.heap.size+1+1+1:=by simp
 refine Ys rfl (by omega) (gf:=174) (lb:=#[.pointer (some ⟨w.heap.size+1+1,0,none⟩)]) rfl trivial (enters_of Tryz.func174 (by kernel_rfl) rfl)
  (Jbt Fence.wide _ trivial rfl (by omega) (w.heap.size+1+1) a len cap (fun j=>ds[j]?.getD 0) hlm) (fun _=>rfl)
  (Jta w a len cap ds) (Jtb w a len cap ds) (by rw [hN];exact Jo0 w a len cap ds) (fun c=>by rw [hN];exact Jo1 w a len cap ds c)
  ⟨⟨⟨⟨b0,b1⟩,b2⟩,hB0⟩,fun j h1 h2=>by omega⟩ ?rd
  (fun k=>{ tmps:=#[.slice a len cap,.pointer (some ⟨w.heap.size,0,none⟩),.pointer (some ⟨w.heap.size+1,0,none⟩),.int .i64 ((len:Int) - 1 - k),.int .u64 (ds[len - 1 - k]?.getD 0:Nat),.slice a len cap,.func (.func 174) #[] #[.pointer (some ⟨w.heap.size+1+1,0,none⟩)],.int .i64 ((len:Int) - 1 - k),.int .u64 (ds[len - 1 - k]?.getD 0:Nat),undef,undef,undef,undef,undef,undef],defers:=[] }) ?assign ?body ?done ?stop
 case rd=>
  rintro k W ⟨⟨⟨_,c2⟩,hB⟩,_⟩;refine ⟨c2.cell,fun hk=>?_⟩;obtain ⟨b,off,ea,hb,hc⟩:=HC.out (len - 1 - k) (by omega);exact ⟨b,off,ea,(hB.cell (p:=⟨b,off+(len - 1 - k),none⟩) hb).trans hc⟩
 case assign=>
  intro l k W K hK;unfold Xl;gi_wp2;exact hK
 case body=>
  rintro l k W ⟨⟨⟨⟨c0,c1⟩,c2⟩,hB⟩,hz⟩ hk hsz;have d0:=c0.cell;have d1:=c1.cell;have f1:=c1.frozen;have HZ:=Hid.out (p:=Hid (∀ j,len - k≤j→j<len→ds[j]?.getD 0=0)) hz;clear hz;have e1:((len:Int) - 1 - k)=((len - 1 - k:Nat):Int):=by omega
  rw [e1];by_cases hx:ds[len - 1 - k]?.getD 0=0
  · have HX:=Hid.out (p:=Hid (ds[len - 1 - k]?.getD 0=0)) hx;rw [hx];clear hx e1;gi_wp2;refine ⟨KeepsFrom.refl _ _,⟨⟨⟨c0,c1⟩,c2⟩,hB⟩,fun j h1 h2=>?_⟩;by_cases hj:j=len - 1 - k
    · rw [hj];exact HX.out
    · exact HZ.out j (by omega) h2
  · have hm:len - 1 - k<len:=by omega
    have hx2:(((ds[len - 1 - k]?.getD 0:Nat):Int) != 0)=true:=by rw [bne_iff_ne];omega
    have HX:=Hid.out (p:=Hid (ds[len - 1 - k]?.getD 0≠0)) hx;clear hx e1;have HK:=Hid.out (p:=Hid (ds[len - 1 - k]?.getD 0≠0∧∀ j,len - k≤j→j<len→ds[j]?.getD 0=0)) ⟨HX.out,HZ.out⟩;clear HX HZ;generalize ds[len - 1 - k]?.getD 0=x at hx2 ⊢;have HM:=Hid.out (p:=Hid (len - 1 - k=len - 1 - k)) rfl;generalize hm0:len - 1 - k=m at hm ⊢;have HM0:=Hid.out (p:=Hid (len - 1 - k=m)) hm0;clear hm0 HM;gi_wp2;refine ⟨(KeepsOthers.setCell _ _ _).from _,⟨?_,hB.setCell (p:=⟨w.heap.size+1,0,none⟩) (by simp) _⟩,rfl,HK.out⟩;rw [HM0.out];exact c1.set _
 case done=>
  rintro D W hD ⟨⟨⟨⟨c0,c1⟩,c2⟩,hB⟩,hz⟩ hK;have d1:=c1.cell;have f1:=c1.frozen;have HZ:=Hid.out (p:=Hid (∀ j,len - len≤j→j<len→ds[j]?.getD 0=0)) hz;clear hz;gi_wp2;have hK2:(W.setCell ⟨w.heap.size+1,0,none⟩ (.slice none 0 0)).heap[D]?=some (.deferred (some [])):=(KeepsOthers.setCell W ⟨w.heap.size+1,0,none⟩ (.slice none 0 0)).same D _ hK rfl;refine ⟨by simp,.inl ⟨_,_,rfl,run_takeDeferred hK2,?_⟩⟩;have b1':=(c1.set (.slice none 0 0)).kept (grownBy_putObj' _ D (.deferred none)) (fun e=>by cases e;rw [show (W.setCell ⟨w.heap.size+1,0,none⟩ (.slice none 0 0)).heap[w.heap.size+1]?=_ from c1.set (.slice none 0 0)] at hK2;cases hK2);have q:=b1'.cell;have e0:Jy ds=[]:=Jk3 ds fun j hj=>Jhh hj (HZ.out j (by omega) (by rw [HL.out];exact hj));refine ⟨.slice none 0 0,by simp [results,Tryz.results132,go_sem,q],_,rfl,⟨?_,?_⟩,Or.inl ⟨rfl,e0⟩⟩
  · rw [e0];exact Row.nil _ _
  · exact (hB.setCell (p:=⟨w.heap.size+1,0,none⟩) (by simp) _).trans (belowK_b (w:=w) (Nat.le_refl _) _ D _ _ (by simp at hD;omega) hK2 rfl rfl)
 case stop=>
  rintro D c k W hD hk ⟨⟨c1,hB⟩,rfl,hx,hz⟩ hK;have d1:=c1.cell;have HZ:=Hid.out (p:=Hid (ds[len - 1 - k]?.getD 0≠0∧∀ j,len - k≤j→j<len→ds[j]?.getD 0=0)) ⟨hx,hz⟩;clear hz hx;gi_wp2;refine ⟨by simp,.inl ⟨_,_,rfl,run_takeDeferred hK,?_⟩⟩;have b1':=c1.kept (grownBy_putObj' _ D (.deferred none)) (fun e=>by cases e;rw [show W.heap[w.heap.size+1]?=_ from c1] at hK;cases hK);have q:=b1'.cell;have hB2:Below w.heap.size w (W.putObj D (.deferred none)):=hB.trans (belowK_b (w:=w) (Nat.le_refl _) _ D _ _ (by simp at hD;omega) hK rfl rfl);have hlen:=HL.out;have e:Jy ds=ds.take (len - 1 - k+1):=by
   refine Jor ds (len - 1 - k) (by omega) ?_ ?_
   · intro h0;apply HZ.out.1;rw [h0];rfl
   · intro j h1 h2;exact Jhh h2 (HZ.out.2 j (by omega) (by omega))
  have el:(ds.take (len - 1 - k+1)).length=len - 1 - k+1:=by rw [List.length_take];omega
  refine ⟨.slice a (len - 1 - k+1) cap,by simp [results,Tryz.results132,go_sem,q],_,rfl,⟨?_,hB2⟩,Or.inr (by rw [e,el])⟩;rw [e];have hr:=Row.below h hB2;obtain ⟨_,_,_,_,hcs⟩:=Jr hr;obtain ⟨b,off,ea,hb,_⟩:=hcs (len - 1 - k) (by omega);have ht:Typ .u64 (W.putObj D (.deferred none)) b:=by
   obtain ⟨b2,o2,e2,ht⟩:=hr.typ (by omega);rw [ea] at e2;cases e2;exact ht
  refine ⟨a,cap,by rw [el],by omega,hcm,by omega,Or.inr ⟨b,off,ea,ht,fun j hj=>?_⟩⟩;rw [el] at hj;obtain ⟨b',off',ea',_,hc'⟩:=hcs j (by omega);rw [ea] at ea';cases ea';rw [hc',List.getElem?_take_of_lt hj]
theorem Yo (v:Value) (ds:List Nat) (w:World) (h:Row .u64 w v ds) :
 Calls Tryz.prog 132 #[v] w fun e w'=>∃ u,e=.returned u∧Row .u64 w' u (Jy ds)∧Below w.heap.size w w':=by
 obtain ⟨a,cap,rfl,h1⟩:=id h;refine (Jcj a _ cap ds w h).mono ?_;rintro e w' ⟨u,rfl,⟨h2,h3⟩,_⟩;exact ⟨u,rfl,h2,h3⟩
theorem Jo2 (F:Fence) (n:Nat) (hf:F.fn 165) (hro:F.round=none) (hn:1≤n) (Bs:Nat) (a:Option Addr) (len cap:Nat) (zs:Nat→Nat) (hlen:len≤4398046511104) :
 Jnc F n Tryz.prog 165 #[.pointer (some ⟨Bs,0,none⟩)] len (Xl len zs) (Jsk Bs a len cap zs):=fun l J Jx W hR hY h0=>by
 have hbs:=(hR 0 W h0).1;refine callsIn_of_wp Tryz.func165 rfl hf ?_ hro;simp only [Tryz.ntmps165,List.size_toArray,List.length_cons,List.length_nil,Nat.reduceAdd,Nat.reduceSub,Array.replicate_succ,Array.replicate_zero,List.push_toArray,List.append_toArray,List.nil_append,List.cons_append];gi_wp2;gi_loopw [3] (fun i wr=>∃ k:Nat,k≤len∧i=.int .i64 ((len:Int) - 1 - k)∧J k wr) (fun i _=>(intOf i+1).toNat)
 case atStart=>exact ⟨0,Nat.zero_le _,by simp,h0⟩
 case round=>
  obtain ⟨k,hk,rfl,hJ⟩:=hrel;obtain ⟨hb2,hc2⟩:=hR k wr hJ;by_cases hlt:k<len
  · obtain ⟨b,off,rfl,hc⟩:=hc2 hlt;obtain ⟨fn,tmps,assign,body,hy,hRd⟩:=hY k wr hJ hlt;have e1:((len:Int) - 1 - k)=((len - 1 - k:Nat):Int):=by omega
    have e2:len - 1 - k<len:=by omega
    dsimp only [Xl] at hy;rw [e1] at hy ⊢;generalize hm:len - 1 - k=m at *;have HM:=Hid.out (p:=Hid (len - 1 - k=m)) hm;clear hm e1;gi_wp2;refine hRd.mono ?_;rintro e W3 (⟨rfl,hJ3⟩ | ⟨rfl,hJx3⟩)
    · gi_wp2;go_roundw
      case rel=>exact ⟨k+1,by omega,by (congr 1;have:=HM.out;omega),hJ3⟩
      case measure=>simp [intOf]
    · gi_wp2;refine bodyPost_ret (results_none rfl _ _ _) rfl ?_;exact ⟨⟨_,rfl⟩,.inr ⟨k,hlt,hJx3⟩⟩
  · obtain rfl:k=len:=by omega
    gi_wp2;go_end0;exact ⟨⟨_,rfl⟩,.inl hJ⟩
theorem Jst (F:Fence) (n:Nat) (hf:F.fn 134) (hro:F.round=none) (a:Option Addr) (len cap:Nat) (w:World) :
 CallsIn F n Tryz.prog 134 #[.slice a len cap] w fun e w'=>e=.returned (.func (.func 165) #[] #[.pointer (some ⟨w.heap.size,0,none⟩)])∧w'=w.alloc (.cells #[.slice a len cap] 33):=by
 refine callsIn_of_wp Tryz.func134 rfl hf ?_ hro;simp only [Tryz.ntmps134,List.size_toArray,List.length_cons,List.length_nil,Nat.reduceAdd,Nat.reduceSub,Array.replicate_succ,Array.replicate_zero,List.push_toArray,List.append_toArray,List.nil_append,List.cons_append];gi_wp2;go_ret;exact ⟨rfl,rfl⟩
end Go.Proofs.YtcahejkcdcjjgaaGreatDoor
namespace Go.Proofs.YtcahejkcdcjjgaaGreatDoor
open Go.RowKit Go.Shelf
variable {F:Fence} {n:Nat} {P:Program}
theorem XZ {g:Operand} {ps:Array Tmp} {assign body:Code} {Q:Exit→Act→World→Prop} {a:Act} {w:World}
 (hro:F.round=none) (h1:1≤n) {gf:Nat} {lb:Array Value} (hg:a.eval g=.func (.func gf) #[] lb) (hFg:F.fn gf) (eg:∀ args w,(callFunc gf args).run P w=.ok (.enter gf args) w)
 {N:Nat} {args:Nat→Array Value} {Rd:Nat→World→Prop} (hseq:Jnc F (n - 1) P gf lb N args Rd) (hps:∀ k,(args k).size=ps.size)
 (I:Nat→World→Prop) (Ix:Code→Nat→World→Prop) (hI:OwnFrom w.heap.size I) (hIx:∀ c,OwnFrom w.heap.size (Ix c)) (h0:I 0 w) (hRd:∀ k W,I k W→Rd k W) (a₁:Nat→Nat→Act) (o:Nat→Obj)
 (hassign:∀ (l k:Nat) (W:World) (K:Act→World→Prop),K (a₁ k W.heap.size) (W.alloc (o k))→
  assign.wpIn (F.inRound l) (n - 1 - 1) P (Exit.then K (fun _ _ _=>False)) { tmps:=(ps.zip (args k)).foldl (fun t (p,v)=>t.setIfInBounds p v) a.tmps,defers:=[] } W)
 (hbody:∀ (l k b:Nat) (W:World),I k W→k<N→w.heap.size<W.heap.size→w.heap.size+1<b→W.heap[b]?=some (o k)→body.wpIn (F.inRound l) (n - 1 - 1) P (roundPost w.heap.size I Ix k W) (a₁ k b) W)
 (hdone:∀ (D:Nat) (W:World),w.heap.size≤D→I N W→W.heap[D]?=some (.deferred (some []))→Q .normal { a with defers:={ target:=.collected D,args:=#[] }::a.defers } W)
 (hstop:∀ (D:Nat) (c:Code) (k:Nat) (W:World),w.heap.size≤D→k<N→Ix c k W→W.heap[D]?=some (.deferred (some []))→c.wpIn F n P Q { a with defers:={ target:=.collected D,args:=#[] }::a.defers } W) :
 (Code.rangeFunc g ps assign body).wpIn F n P Q a w:=by
 refine wpIn_rangeFunc fun fn hfn=>?_;rw [hro];obtain ⟨rc,hrc⟩:∃ rc:LoopState→Option Code→Loop,rc=fun st pe=>{ state:=st,pending:=pe,fn,tmps:=a.tmps,params:=ps,assign,body,defers:=w.heap.size }:=⟨_,rfl⟩;obtain ⟨V,hV⟩:∃ V,(w.alloc (.deferred (some []))).alloc (.loop (rc .ready none))=V:=⟨_,rfl⟩;have vL:V.heap[w.heap.size+1]?=some (.loop (rc .ready none)):=by
  rw [←hV];have:=World.alloc_heap_new (w.alloc (.deferred (some []))) (.loop (rc .ready none));rwa [World.size_alloc] at this
 have vD:V.heap[w.heap.size]?=some (.deferred (some [])):=by
  rw [←hV];exact (Below.heap_alloc _ _ _ (by simp)).trans (World.alloc_heap_new w _)
 have vI:I 0 V:=by rw [←hV];exact hI.alloc _ (hI.alloc _ h0)
 refine ⟨w.heap.size+1,[{ target:=.collected w.heap.size,args:=#[] }],V,{ target:=.fn (.func gf) lb,args:=#[.func (.yield (w.heap.size+1)) #[] #[]] },V,gf,
  #[.func (.yield (w.heap.size+1)) #[] #[]]++lb,V,?_,?_,?_,?_,fun _=>h1,?_⟩
 · rw [←hV,hrc];exact run_enterLoop_outer _ _ _ _ _
 · simp only [resolve,hg];simp [go_sem]
 · intro f' hf';simp [Target.leads] at hf';subst hf';exact hFg
 · simp [invoke,go_sem,eg]
 refine (hseq (w.heap.size+1)
  (fun k W=>I k W∧W.heap[w.heap.size+1]?=some (.loop (rc .ready none))∧W.heap[w.heap.size]?=some (.deferred (some [])))
  (fun k W=>∃ c,Ix c k W∧W.heap[w.heap.size+1]?=some (.loop (rc .done (some c)))∧W.heap[w.heap.size]?=some (.deferred (some [])))
  V (fun k W h=>hRd k W h.1) ?_ ⟨vI,vL,vD⟩).mono ?_
 · rintro k W ⟨hi,hl,hk⟩ hlt;have hsz:w.heap.size+1<W.heap.size:=(Array.getElem?_eq_some_iff.1 hl).1;have hy:=run_yield (P:=P) (args:=args k) hl (by rw [hrc];exact hps k);rw [hrc] at hy;obtain ⟨W1,hW1⟩:∃ W1,W.alloc (o k)=W1:=⟨_,rfl⟩;have hl1:W1.heap[w.heap.size+1]?=some (.loop (rc .ready none)):=by rw [←hW1];exact (Below.heap_alloc _ _ _ hsz).trans hl
   have hk1:W1.heap[w.heap.size]?=some (.deferred (some [])):=by rw [←hW1];exact (Below.heap_alloc _ _ _ (by omega)).trans hk
   have hi1:I k W1:=by rw [←hW1];exact hI.alloc _ hi
   have hb1:W1.heap[W.heap.size]?=some (o k):=by rw [←hW1];exact World.alloc_heap_new W _
   refine ⟨fn,_,assign,body,hy,roundIn_of_wpIn hfn (hassign _ k W _ ?_)⟩;rw [hW1];refine ⟨_,run_beginRound hl1 (by rw [hrc]),?_⟩;obtain ⟨bx,hbx⟩:∃ bx,W.heap.size=bx:=⟨_,rfl⟩;rw [hbx] at hb1 hsz ⊢;have hsz1:w.heap.size+1<W1.heap.size:=(Array.getElem?_eq_some_iff.1 hl1).1;obtain ⟨W2,hW2⟩:∃ W2,W1.putObj (w.heap.size+1) (.loop { rc .ready none with state:=.busy })=W2:=⟨_,rfl⟩;rw [hW2];have hl2:W2.heap[w.heap.size+1]?=some (.loop { rc .ready none with state:=.busy }):=by rw [←hW2];exact World.putObj_heap_same hsz1
   have hb2:W2.heap[bx]?=some (o k):=by rw [←hW2];exact (World.putObj_heap_other (by omega)).trans hb1
   have hk2:W2.heap[w.heap.size]?=some (.deferred (some [])):=by rw [←hW2];exact (World.putObj_heap_other (by omega)).trans hk1
   have hi2:I k W2:=by rw [←hW2];exact hI.putObj _ hi1 (by omega) hl1 rfl
   have hs2:w.heap.size<W2.heap.size:=(Array.getElem?_eq_some_iff.1 hk2).1;have fin:∀ (jump:Option Code) (W3:World),KeepsFrom w.heap.size W2 W3→
    (Instr.endRound (w.heap.size+1) jump).run P W3=.ok (.bool jump.isNone) (W3.putObj (w.heap.size+1) (.loop (rc (if jump.isNone then .ready else .done) jump)))∧
    W3.heap[w.heap.size+1]?=some (.loop { rc .ready none with state:=.busy })∧
    (W3.putObj (w.heap.size+1) (.loop (rc (if jump.isNone then .ready else .done) jump))).heap[w.heap.size+1]?=some (.loop (rc (if jump.isNone then .ready else .done) jump))∧
    (W3.putObj (w.heap.size+1) (.loop (rc (if jump.isNone then .ready else .done) jump))).heap[w.heap.size]?=some (.deferred (some [])):=fun jump W3 hk3=>by
    have hl3:=hk3.same _ _ (by omega) hl2 rfl;have hr:=run_endRound (P:=P) jump hl3;rw [hrc] at hr ⊢;exact ⟨hr,by rw [hrc] at hl3;exact hl3,World.putObj_heap_same (Array.getElem?_eq_some_iff.1 hl3).1,(World.putObj_heap_other (by omega)).trans (hk3.same _ _ (Nat.le_refl _) hk2 rfl)⟩
   refine wpIn_mono (hbody _ k bx W2 hi2 hlt hs2 hsz hb2) fun e a3 W3 hp=>?_;cases e with
   | normal=>
    obtain ⟨hr,hl3,hl4,hk4⟩:=fin none W3 hp.1;exact ⟨_,_,hr,.inl ⟨rfl,hI.putObj _ hp.2 (by omega) hl3 rfl,hl4,hk4⟩⟩
   | ret=>
    obtain ⟨hr,hl3,hl4,hk4⟩:=fin (some .ret) W3 hp.1;exact ⟨_,_,hr,.inr ⟨rfl,.ret,(hIx _).putObj _ hp.2 (by omega) hl3 rfl,hl4,hk4⟩⟩
   | exit id=>
    obtain ⟨hr,hl3,hl4,hk4⟩:=fin (some (.exit id)) W3 hp.1;exact ⟨_,_,hr,.inr ⟨rfl,.exit id,(hIx _).putObj _ hp.2 (by omega) hl3 rfl,hl4,hk4⟩⟩
   | goto t=>
    obtain ⟨hr,hl3,hl4,hk4⟩:=fin (some (.goto t)) W3 hp.1;exact ⟨_,_,hr,.inr ⟨rfl,.goto t,(hIx _).putObj _ hp.2 (by omega) hl3 rfl,hl4,hk4⟩⟩
   | panic ch=>exact hp.elim
   | outgrown=>exact hp.elim
 · rintro e W2 ⟨⟨v,rfl⟩,(⟨hi,hl,hk⟩ | ⟨k,hk0,c,hi,hl,hk⟩)⟩
   · exact ⟨none,_,by have:=run_endLoop (P:=P) hl (by rw [hrc];simp);rw [hrc] at this;exact this,hdone _ _ (Nat.le_refl _) (hI.putObj _ hi (by omega) hl rfl) ((World.putObj_heap_other (by omega)).trans hk)⟩
   · exact ⟨some c,_,by have:=run_endLoop (P:=P) hl (by rw [hrc];simp);rw [hrc] at this;exact this,hstop _ c k _ (Nat.le_refl _) hk0 ((hIx c).putObj _ hi (by omega) hl rfl) ((World.putObj_heap_other (by omega)).trans hk)⟩
end Go.Proofs.YtcahejkcdcjjgaaGreatDoor
