import Derived.RangeFuncNested
import Derived.RangeFuncBound
import Derived.RangeFuncCalls
import Derived.RangeFuncLeaves
import Derived.RangeFuncBox
import Derived.Shelf.Abstract
import Derived.Shelf.RegionOpen
import Derived.WalkKit
import Derived.WalkSpells
import Derived.WalkLawsBesides
import Derived.OwnWalkIn
import Derived.TacticsInMore
import Derived.LoopNIn
import Derived.LoopIn
import Derived.Maps.AppendAt
import Derived.Deep.QuietTactic
import Derived.BigQuiet
import Derived.Test.YteldjhhjnchdeaaGreatDoorW02
import Derived.Test.YteldjhhjnchdeaaGreatDoorProg
open Go.Value renaming slice->B
open Go renaming World->C,Value->H
open Go.Obj renaming deferred->E,cells->G
set_option maxRecDepth 100000
set_option maxHeartbeats 16000000
namespace Go.Proofs.YteldjhhjnchdeaaGreatDoor
open Go.RowKit Go.Shelf
section
theorem DK:type_of% @belowK_b:=@belowK_b
theorem DH:type_of% @ownFrom_pure:=@ownFrom_pure
theorem DE:type_of% @Hid.out:=@Hid.out
theorem B0:type_of% @enters_of:=@enters_of
theorem Bs:type_of% @callsIn_of_wp:=@callsIn_of_wp
theorem Br:type_of% @ownFrom_below:=@ownFrom_below
theorem Bh:type_of% @World.putObj_heap_same:=@World.putObj_heap_same
theorem Bg:type_of% @Own.from:=@Own.from
theorem Bf:type_of% @Below.heap_alloc:=@Below.heap_alloc
theorem BW:type_of% @run_takeDeferred:=@run_takeDeferred
theorem BU:type_of% @grownBy_putObj':=@grownBy_putObj'
theorem BT:type_of% @callsIn_of_wp_marks:=@callsIn_of_wp_marks
theorem BR:type_of% @World.putObj_heap_other:=@World.putObj_heap_other
theorem BN:type_of% @OwnFrom.and:=@OwnFrom.and
theorem BL:type_of% @Boxed.new:=@Boxed.new
theorem BK:type_of% @KeepsOthers.setCell:=@KeepsOthers.setCell
theorem BG:type_of% @callsIn_wide:=@callsIn_wide
theorem BE:type_of% @Below.refl:=@Below.refl
theorem BD:type_of% @World.alloc_heap_new:=@World.alloc_heap_new
theorem BC:type_of% @Below.heap_setCell:=@Below.heap_setCell
theorem BB:type_of% @bodyPost_ret:=@bodyPost_ret
theorem BA:type_of% @World.size_alloc:=@World.size_alloc
abbrev Nz(k:IntKind):TypeId:=match k with|.i64=>3|_=>156
def Ee(k:IntKind)(W:C)(b:Nat):Prop:=∃cs m,W.heap[b]?=some (G cs (Nz k) m)
variable{k:IntKind}{ds:List Nat}{b:Nat}{W W':C}
theorem Ee.lt(h:Ee k W b):b<W.heap.size:=by obtain⟨cs,m,h⟩:=h;exact(Ae.1 h).1
theorem Ee.of(h:Ee k W b)(e:W'.heap[b]?=W.heap[b]?):Ee k W' b:=by obtain⟨cs,m,h⟩:=h;exact⟨cs,m,e.trans h⟩
theorem Ee.below(h:Ee k W b)(a:Below W.heap.size W W'):Ee k W' b:=h.of (a.block b h.lt)
theorem Ee.set(h:Ee k W b)(p:Addr)(u:H):Ee k (W.setCell p u) b:=by
 by_cases e:b=p.block
 . obtain⟨cs,m,h⟩:=h;obtain⟨c,a⟩:=Ae.1 h;subst e;refine⟨if p.spot.isSome=true then cs else cs.setIfInBounds p.off u,m,?_⟩;show(W.heap.modify p.block _)[p.block]?=_;rw[Ce (by rw[CR];exact c),Cj,a]
 . exact h.of (BC W p u b e)
def Row(k:IntKind)(W:C)(v:H)(ds:List Nat):Prop:=
 ∃a cap,v=B a ds.length cap/\ds.length<=cap/\cap<=9223372036854775807/\ds.length<=1099511627776/\
  (ds=[]\/∃b off,a=some ⟨b,off,none⟩/\Ee k W b/\∀j,j<ds.length->W.cell? ⟨b,off+j,none⟩=some (.int k (ds[j]?.getD 0:Nat)))
theorem Row.below{k:IntKind}{W W':C}{v:H}{ds:List Nat}(h:Row k W v ds)(d:Below W.heap.size W W'):Row k W' v ds:=by
 obtain⟨a,cap,e,i,l,m,c⟩:=h;refine⟨a,cap,e,i,l,m,?_⟩;rcases c with c|⟨b,off,g,f,n⟩
 . exact Or.inl c
 . exact Or.inr ⟨b,off,g,f.below d,λj o=>(d.cell (p:=⟨b,off+j,none⟩) f.lt).trans (n j o)⟩
theorem Row.typ{a:Option Addr}{l cap:Nat}(h:Row k W (B a l cap) ds)(d:0<l):∃b off,a=some ⟨b,off,none⟩/\Ee k W b:=by
 obtain⟨a',i,e,_,_,_,c⟩:=h;cases e;rcases c with c|⟨b,off,f,g,_⟩
 . rw[c]at d;simp at d
 . exact⟨b,off,f,g⟩
theorem Row.nil(k:IntKind)(W:C):Row k W (B none 0 0) []:=⟨none,0,rfl,Aa _,Y,O,Or.inl rfl⟩
theorem Row.open{v:H}(h:Row k W v ds):∃a cap,v=B a ds.length cap/\ds.length<=cap/\cap<=9223372036854775807/\ds.length<=1099511627776/\
 Hid (∀j,j<ds.length->∃b off,a=some ⟨b,off,none⟩/\b<W.heap.size/\W.cell? ⟨b,off+j,none⟩=some (.int k (ds[j]?.getD 0:Nat))):=by
 obtain⟨a,cap,e,g,i,l,c⟩:=h;refine⟨a,cap,e,g,i,l,λj d=>?_⟩;rcases c with c|⟨b,off,f,m,n⟩
 . rw[c]at d;simp at d
 . exact⟨b,off,f,m.lt,n j d⟩
theorem Tryz.infoU64:(Tryz.prog.info? 156).map (λi=>(i.zero,i.size,i.bytes))=some (some (.int .u64 0),1,8):=by kernel_rfl
def cellsOf(k:IntKind)(ds:List Nat):List H:=ds.map λd=>Value.int k (d:Nat)
theorem SR(k:IntKind)(ds:List Nat)(d:Nat):cellsOf k (ds++[d])=cellsOf k ds++[.int k (d:Nat)]:=by simp[cellsOf]
theorem Lu(k:IntKind)(ds:List Nat):(cellsOf k ds).length=ds.length:=by simp[cellsOf]
def N0:H->Nat|B _ k _=>k|_=>0
def RN(W:C)(v:H)(n:Nat):Prop:=Row .i64 W v (Jg 10000 n)
def Ij(F:Fence)(n:Nat)(P:Program)(g:Nat)(lb:Array H)(N:Nat)(args:Nat->Array H)(Rd:Nat->C->Prop):Prop:=
 ∀(l:Nat) (a c:Nat->C->Prop) (W:C),(∀k b,a k b->Rd k b)->
  (∀k b,a k b->k<N->YieldAt F (n-1) P l (args k) b λe W'=>(e=.returned (.bool true)/\a (k+1) W')\/(e=.returned (.bool false)/\c k W'))->
  a 0 W->CallsIn F n P g (#[.func (.yield l) #[] #[]]++lb) W λe W'=>(∃v,e=.returned v)/\(a N W'\/∃k,k<N/\c k W')
def roundPost(B:Nat)(I:Nat->C->Prop)(a:Code->Nat->C->Prop)(k:Nat)(W:C):Exit->Act->C->Prop
 |.normal,_,W'=>KeepsFrom B W W'/\I (k+1) W'
 |.ret,_,W'=>KeepsFrom B W W'/\a .ret k W'
 |.exit id,_,W'=>KeepsFrom B W W'/\a (.exit id) k W'
 |.goto t,_,W'=>KeepsFrom B W W'/\a (.goto t) k W'
 |.panic _,_,_=>False
 |.outgrown,_,_=>False
variable {F:Fence} {n:Nat} {P:Program}
theorem YH{g:Operand}{ps:Array Tmp}{assign body:Code}{Q:Exit->Act->C->Prop}{a:Act}{w:C}
(aq:F.round=none)(h1:1<=n){gf:Nat}{lb:Array H}(hg:a.eval g=.func (.func gf) #[] lb)(ad:F.fn gf)(eg:∀args w,(callFunc gf args).run P w=.ok (.enter gf args) w)
{N:Nat}{args:Nat->Array H}{Rd:Nat->C->Prop}(av:Ij F (n-1) P gf lb N args Rd)(ap:∀k,(args k).size=ps.size)
(I:Nat->C->Prop)(x:Code->Nat->C->Prop)(r:OwnFrom w.heap.size I)(y:∀c,OwnFrom w.heap.size (x c))(h0:I 0 w)(ae:∀k W,I k W->Rd k W)(M:Nat->Act)
(af:∀(l k:Nat) (W:C) (K:Act->C->Prop),K (M k) W->
  assign.wpIn (F.inRound l) (n-1-1) P (Exit.then K λ_ _ _=>False) { tmps:=(ps.zip (args k)).foldl (λt (p,v)=>t.setIfInBounds p v) a.tmps,defers:=[] } W)
(ah:∀(l k:Nat) (W:C),I k W->k<N->w.heap.size<W.heap.size->body.wpIn (F.inRound l) (n-1-1) P (roundPost w.heap.size I x k W) (M k) W)
(ai:∀(D:Nat) (W:C),w.heap.size<=D->I N W->W.heap[D]?=some (E (some []))->Q .normal { a with defers:={ target:=.collected D,args:=#[] }::a.defers } W)
(aw:∀(D:Nat) (c:Code) (k:Nat) (W:C),w.heap.size<=D->k<N->x c k W->W.heap[D]?=some (E (some []))->c.wpIn F n P Q { a with defers:={ target:=.collected D,args:=#[] }::a.defers } W):
 (Code.rangeFunc g ps assign body).wpIn F n P Q a w:=by
 refine wpIn_rangeFunc λfn ak=>?_;rw[aq];obtain⟨rc,j⟩:∃rc:LoopState->Option Code->Loop,rc=λst pe=>{ state:=st,pending:=pe,fn,tmps:=a.tmps,params:=ps,assign,body,defers:=w.heap.size }:=⟨_,rfl⟩;obtain⟨V,z⟩:=ex ((w.alloc (E (some []))).alloc (.loop (rc .ready none)));have vL:V.heap[w.heap.size+1]?=some (.loop (rc .ready none)):=by
  rw[<-z];have:=BD (w.alloc (E (some []))) (.loop (rc .ready none));rwa[BA]at this
 have vD:V.heap[w.heap.size]?=some (E (some [])):=by
  rw[<-z];exact(Bf _ _ _ O).trans (BD w _)
 have vI:I 0 V:=by rw[<-z];exact r.alloc _ (r.alloc _ h0)
 refine⟨w.heap.size+1,[{ target:=.collected w.heap.size,args:=#[] }],V,{ target:=.fn (.func gf) lb,args:=#[.func (.yield (w.heap.size+1)) #[] #[]] },V,gf,
  #[.func (.yield (w.heap.size+1)) #[] #[]]++lb,V,?_,?_,?_,?_,λ_=>h1,?_⟩
 . rw[<-z,j];exact run_enterLoop_outer _ _ _ _ _
 . simp only[resolve,hg];simp[go_sem]
 . intro f' R;simp[Target.leads]at R;subst R;exact ad
 . simp[invoke,go_sem,eg]
 refine(av (w.heap.size+1)
  (λk W=>I k W/\W.heap[w.heap.size+1]?=some (.loop (rc .ready none))/\W.heap[w.heap.size]?=some (E (some [])))
  (λk W=>∃c,x c k W/\W.heap[w.heap.size+1]?=some (.loop (rc .done (some c)))/\W.heap[w.heap.size]?=some (E (some [])))
  V (λk W h=>ae k W h.1) ?_ ⟨vI,vL,vD⟩).mono ?_
 . rintro k W ⟨s,hl,u⟩ an;have Qf:w.heap.size+1<W.heap.size:=(Ae.1 hl).1;have T:=run_yield (P:=P) (args:=args k) hl (by rw[j];exact ap k);rw[j]at T;refine⟨fn,_,assign,body,T,roundIn_of_wpIn ak (af _ k W _ ⟨_,run_beginRound hl (by rw[j]),?_⟩)⟩;obtain⟨m,A⟩:=ex (W.putObj (w.heap.size+1) (.loop { rc .ready none with state:=.busy }));rw[A];have U:m.heap[w.heap.size+1]?=some (.loop { rc .ready none with state:=.busy }):=by rw[<-A];exact Bh Qf
   have L:m.heap[w.heap.size]?=some (E (some [])):=by rw[<-A];exact(BR Y).trans u
   have X:I k m:=by rw[<-A];exact r.putObj _ s Y hl rfl
   have Qe:w.heap.size<m.heap.size:=(Ae.1 L).1;have fin:∀(f:Option Code) (d:C),KeepsFrom w.heap.size m d->
    (Instr.endRound (w.heap.size+1) f).run P d=.ok (.bool f.isNone) (d.putObj (w.heap.size+1) (.loop (rc (if f.isNone then .ready else .done) f)))/\
    d.heap[w.heap.size+1]?=some (.loop { rc .ready none with state:=.busy })/\
    (d.putObj (w.heap.size+1) (.loop (rc (if f.isNone then .ready else .done) f))).heap[w.heap.size+1]?=some (.loop (rc (if f.isNone then .ready else .done) f))/\
    (d.putObj (w.heap.size+1) (.loop (rc (if f.isNone then .ready else .done) f))).heap[w.heap.size]?=some (E (some [])):=λf d S=>by
    have b:=S.same _ _ Y U rfl;have i:=run_endRound (P:=P) f b;rw[j]at i ⊢;exact⟨i,by rw[j]at b;exact b,Bh (Ae.1 b).1,(BR Y).trans (S.same _ _ (Aa _) L rfl)⟩
   refine wpIn_mono (ah _ k m X an Qe) λe a3 d hp=>?_;cases e with
   |normal=>
    obtain⟨i,b,q,o⟩:=fin none d hp.1;exact⟨_,_,i,.inl ⟨rfl,r.putObj _ hp.2 Y b rfl,q,o⟩⟩
   |ret=>
    obtain⟨i,b,q,o⟩:=fin (some .ret) d hp.1;exact⟨_,_,i,.inr ⟨rfl,.ret,(y _).putObj _ hp.2 Y b rfl,q,o⟩⟩
   |exit id=>
    obtain⟨i,b,q,o⟩:=fin (some (.exit id)) d hp.1;exact⟨_,_,i,.inr ⟨rfl,.exit id,(y _).putObj _ hp.2 Y b rfl,q,o⟩⟩
   |goto t=>
    obtain⟨i,b,q,o⟩:=fin (some (.goto t)) d hp.1;exact⟨_,_,i,.inr ⟨rfl,.goto t,(y _).putObj _ hp.2 Y b rfl,q,o⟩⟩
   |panic ch=>exact hp.elim
   |outgrown=>exact hp.elim
 . rintro e m ⟨⟨v,rfl⟩,(⟨s,hl,u⟩|⟨k,am,c,s,hl,u⟩)⟩
   . exact⟨none,_,by have:=run_endLoop (P:=P) hl (by rw[j];simp);rw[j]at this;exact this,ai _ _ (Aa _) (r.putObj _ s Y hl rfl) ((BR Y).trans u)⟩
   . exact⟨some c,_,by have:=run_endLoop (P:=P) hl (by rw[j];simp);rw[j]at this;exact this,aw _ c k _ (Aa _) am ((y c).putObj _ s Y hl rfl) ((BR Y).trans u)⟩
end
section
attribute [local go_sem] Oper.semAt_some
def N1(c:Nat)(a:Option Addr)(len cap:Nat)(d:Nat->Nat)(k:Nat)(W:C):Prop:=
 W.cell? ⟨c,0,none⟩=some (B a len cap)/\(k<len->∃b off,a=some ⟨b,off,none⟩/\W.cell? ⟨b,off+(len-1-k),none⟩=some (.int .u64 (d (len-1-k):Nat)))
def XQ(len:Nat)(a:Nat->Nat)(k:Nat):Array H:=#[.int .i64 ((len:Int)-1-k),.int .u64 (a (len-1-k):Nat)]
variable{ds:List Nat}
theorem Ik(F:Fence)(n:Nat)(A:F.fn 174)(D:F.round=none)(S:1<=n)(f:Nat)(a:Option Addr)(len cap:Nat)(s:Nat->Nat)(R:len<=1099511627776):
 Ij F n Tryz.prog 174 #[.pointer (some ⟨f,0,none⟩)] len (XQ len s) (N1 f a len cap s):=λl u I W o y j=>by
 have N:=(o 0 W j).1;refine Bs Tryz.func174 rfl A ?_ D;simp only[Tryz.ntmps174,Ar,Ao,AG,Nat.reduceAdd,Nat.reduceSub,AA,AB,AR,AJ,At,AF];gi_wp2;gi_loopw [3] (λi wr=>∃k:Nat,k<=len/\i=.int .i64 ((len:Int)-1-k)/\u k wr) λi _=>(intOf i+1).toNat
 case atStart=>exact⟨0,AK _,O,j⟩
 case round=>
  obtain⟨k,Q,rfl,c⟩:=hrel;obtain⟨M,z⟩:=o k wr c;by_cases d:k<len
  . obtain⟨b,off,rfl,P⟩:=z d;obtain⟨fn,tmps,assign,body,r,x⟩:=y k wr c d;have g:((len:Int)-1-k)=((len-1-k:Nat):Int):=Y
    have L:len-1-k<len:=Y
    dsimp only[XQ]at r;rw[g]at r ⊢;generalize q:len-1-k=m at *;have t:=DE (p:=Hid (len-1-k=m)) q;clear q g;gi_wp2;refine x.mono ?_;rintro e K (⟨rfl,v⟩|⟨rfl,w⟩)
    . gi_wp2;go_roundw
      case rel=>exact⟨k+1,Y,by(congr 1;have:=t.out;omega),v⟩
      case measure=>simp[intOf]
    . gi_wp2;refine BB (results_none rfl _ _ _) rfl ?_;exact⟨⟨_,rfl⟩,.inr ⟨k,d,w⟩⟩
  . obtain rfl:k=len:=Y
    gi_wp2;go_end0;exact⟨⟨_,rfl⟩,.inl c⟩
theorem Il(F:Fence)(n:Nat)(b:F.fn 152)(c:F.round=none)(a:Option Addr)(len cap:Nat)(w:C):
 CallsIn F n Tryz.prog 152 #[B a len cap] w λe d=>e=.returned (.func (.func 174) #[] #[.pointer (some ⟨w.heap.size,0,none⟩)])/\d=w.alloc (G #[B a len cap] 61):=by
 refine Bs Tryz.func152 rfl b ?_ c;simp only[Tryz.ntmps152,Ar,Ao,AG,Nat.reduceAdd,Nat.reduceSub,AA,AB,AR,AJ,At,AF];gi_wp2;go_ret;exact⟨rfl,rfl⟩
theorem JA{k:IntKind}{W:C}{a:Option Addr}{l cap:Nat}(h:Row k W (B a l cap) ds):l=ds.length/\l<=cap/\cap<=9223372036854775807/\l<=1099511627776/\
 ∀j,j<l->∃b off,a=some ⟨b,off,none⟩/\b<W.heap.size/\W.cell? ⟨b,off+j,none⟩=some (.int k (ds[j]?.getD 0:Nat)):=by
 obtain⟨a',c',e,c,d,f,g⟩:=Row.open h;cases e;exact⟨rfl,c,d,f,g⟩
theorem N2{j:Nat}(a:j<ds.length)(h:ds[j]?.getD 0=0):ds[j]?=some 0:=by
 rw[An a]at h ⊢;exact Bo some h
def N3(w:C)(a:Option Addr)(len cap:Nat)(ds:List Nat)(k:Nat)(W:C):Prop:=
 (((Boxed W w.heap.size 61 (B a len cap)/\Boxed W (w.heap.size+1) 61 (B none 0 0))/\Boxed W (w.heap.size+1+1) 61 (B a len cap))/\Below w.heap.size w W)/\∀j,len-k<=j->j<len->ds[j]?.getD 0=0
def N8(w:C)(a:Option Addr)(len cap:Nat)(ds:List Nat)(c:Code)(k:Nat)(W:C):Prop:=
 (Boxed W (w.heap.size+1) 61 (B a (len-1-k+1) cap)/\Below w.heap.size w W)/\(c=.ret/\ds[len-1-k]?.getD 0≠0/\∀j,len-k<=j->j<len->ds[j]?.getD 0=0)
theorem SS(w:C)(a:Option Addr)(len cap:Nat)(ds:List Nat):OwnFrom (w.heap.size+1+1+1) (N3 w a len cap ds):=
 BN (BN (BN (BN (Bg (boxed_own _ _ λ_=>B a len cap) _) (Bg (boxed_own _ _ λ_=>B none 0 0) _)) (Bg (boxed_own _ _ λ_=>B a len cap) _)) (Br (Aa _) Y)) (DH _ _)
theorem SU(w:C)(a:Option Addr)(len cap:Nat)(ds:List Nat)(c:Code):OwnFrom (w.heap.size+1+1+1) (N8 w a len cap ds c):=
 BN (BN (Bg (boxed_own _ _ λk=>B a (len-1-k+1) cap) _) (Br (Aa _) Y)) (DH _ _)
theorem KT(a:Option Addr)(len cap:Nat)(ds:List Nat)(w:C)(h:Row .u64 w (B a len cap) ds):
 Calls Tryz.prog 128 #[B a len cap] w λe N=>∃u,e=.returned u/\(Row .u64 N u (JI ds)/\Below w.heap.size w N)/\(u=B none 0 0/\JI ds=[]\/u=B a (JI ds).length cap):=by
 obtain⟨hl,ak,ah,ai,z⟩:=JA h;have P:=DE (p:=Hid (len=ds.length)) hl;have HC:=DE (p:=Hid (∀j,j<len->∃b off,a=some ⟨b,off,none⟩/\b<w.heap.size/\w.cell? ⟨b,off+j,none⟩=some (.int .u64 (ds[j]?.getD 0:Nat)))) z;clear z hl;refine(BG (n:=3)).1 ?_;refine BT Tryz.func128 rfl trivial ?_ rfl;simp only[Tryz.ntmps128,Ar,Ao,AG,Nat.reduceAdd,Nat.reduceSub,AA,AB,AR,AJ,At,AF];gi_wp2_with(refine⟨trivial,?_⟩;gi_at_call 152;refine(Il Fence.wide _ trivial rfl _ _ _ _).mono ?_;rintro e N ⟨rfl,rfl⟩)
 have b0:=((BL w 61 (B a len cap)).alloc (G #[B none 0 0] 61)).alloc (G #[B a len cap] 61);have R:=(BL (w.alloc (G #[B a len cap] 61)) 61 (B none 0 0)).alloc (G #[B a len cap] 61);have F:=BL ((w.alloc (G #[B a len cap] 61)).alloc (G #[B none 0 0] 61)) 61 (B a len cap);simp only[BA]at R F;have Qd:Below w.heap.size w (((w.alloc (G #[B a len cap] 61)).alloc (G #[B none 0 0] 61)).alloc (G #[B a len cap] 61)):=(((BE _ w).alloc (Aa _) _).alloc O _).alloc si _;have X:(((w.alloc (G #[B a len cap] 61)).alloc (G #[B none 0 0] 61)).alloc (G #[B a len cap] 61)).heap.size=w.heap.size+1+1+1:=O
 refine YH rfl Y (gf:=174) (lb:=#[.pointer (some ⟨w.heap.size+1+1,0,none⟩)]) rfl trivial (B0 Tryz.func174 (by kernel_rfl) rfl)
  (Ik Fence.wide _ trivial rfl Y (w.heap.size+1+1) a len cap (λj=>ds[j]?.getD 0) ai) (λ_=>rfl)
  (N3 w a len cap ds) (N8 w a len cap ds) (by rw[X];exact SS w a len cap ds) (λc=>by rw[X];exact SU w a len cap ds c)
  ⟨⟨⟨⟨b0,R⟩,F⟩,Qd⟩,λj V y=>by omega⟩ ?rd
  (λk=>{ tmps:=#[B a len cap,.pointer (some ⟨w.heap.size,0,none⟩),.pointer (some ⟨w.heap.size+1,0,none⟩),.int .i64 ((len:Int)-1-k),.int .u64 (ds[len-1-k]?.getD 0:Nat),B a len cap,.func (.func 174) #[] #[.pointer (some ⟨w.heap.size+1+1,0,none⟩)],.int .i64 ((len:Int)-1-k),.int .u64 (ds[len-1-k]?.getD 0:Nat),undef,undef,undef,undef,undef,undef],defers:=[] }) ?assign ?body ?done ?stop
 case rd=>
  rintro k W ⟨⟨⟨_,c2⟩,f⟩,_⟩;refine⟨c2.cell,λhk=>?_⟩;obtain⟨b,off,s,hb,z⟩:=HC.out (len-1-k) Y;exact⟨b,off,s,(f.cell (p:=⟨b,off+(len-1-k),none⟩) hb).trans z⟩
 case assign=>
  intro l k W K g;unfold XQ;gi_wp2;exact g
 case body=>
  rintro l k W ⟨⟨⟨⟨c0,c1⟩,c2⟩,f⟩,o⟩ hk an;have d0:=c0.cell;have d1:=c1.cell;have f1:=c1.frozen;have d:=DE (p:=Hid (∀j,len-k<=j->j<len->ds[j]?.getD 0=0)) o;clear o;have I:((len:Int)-1-k)=((len-1-k:Nat):Int):=Y
  rw[I];by_cases i:ds[len-1-k]?.getD 0=0
  . have t:=DE (p:=Hid (ds[len-1-k]?.getD 0=0)) i;rw[i];clear i I;gi_wp2;refine⟨KeepsFrom.refl _ _,⟨⟨⟨c0,c1⟩,c2⟩,f⟩,λj V y=>?_⟩;by_cases r:j=len-1-k
    . rw[r];exact t.out
    . exact d.out j Y y
  . have hm:len-1-k<len:=Y
    have Qc:(((ds[len-1-k]?.getD 0:Nat):Int) != 0)=true:=by rw[bne_iff_ne];omega
    have t:=DE (p:=Hid (ds[len-1-k]?.getD 0≠0)) i;clear i I;have HK:=DE (p:=Hid (ds[len-1-k]?.getD 0≠0/\∀j,len-k<=j->j<len->ds[j]?.getD 0=0)) ⟨t.out,d.out⟩;clear t d;generalize ds[len-1-k]?.getD 0=x at Qc ⊢;generalize ae:len-1-k=m at hm ⊢;have Qe:=DE (p:=Hid (len-1-k=m)) ae;clear ae;gi_wp2;refine⟨(BK _ _ _).from _,⟨?_,f.setCell (p:=⟨w.heap.size+1,0,none⟩) O _⟩,rfl,HK.out⟩;rw[Qe.out];exact c1.set _
 case done=>
  rintro D W hD ⟨⟨⟨⟨c0,c1⟩,c2⟩,f⟩,o⟩ g;have d1:=c1.cell;have f1:=c1.frozen;have d:=DE (p:=Hid (∀j,len-len<=j->j<len->ds[j]?.getD 0=0)) o;clear o;gi_wp2;have v:(W.setCell ⟨w.heap.size+1,0,none⟩ (B none 0 0)).heap[D]?=some (E (some [])):=(BK W ⟨w.heap.size+1,0,none⟩ (B none 0 0)).same D _ g rfl;refine⟨O,.inl ⟨_,_,rfl,BW v,?_⟩⟩;have A:=(c1.set (B none 0 0)).kept (BU _ D (E none)) (λe=>by cases e;rw[show(W.setCell ⟨w.heap.size+1,0,none⟩ (B none 0 0)).heap[w.heap.size+1]?=_ from c1.set (B none 0 0)]at v;cases v);have q:=A.cell;have S:JI ds=[]:=Rz ds λj r=>N2 r (d.out j Y (by rw[P.out];exact r));refine⟨B none 0 0,by simp[results,Tryz.results128,go_sem,q],_,rfl,⟨?_,?_⟩,Or.inl ⟨rfl,S⟩⟩
  . rw[S];exact Row.nil _ _
  . exact(f.setCell (p:=⟨w.heap.size+1,0,none⟩) O _).trans (DK (w:=w) (Aa _) _ D _ _ (by simp at hD;omega) v rfl rfl)
 case stop=>
  rintro D c k W hD hk ⟨⟨c1,f⟩,rfl,i,o⟩ g;have d1:=c1.cell;have d:=DE (p:=Hid (ds[len-1-k]?.getD 0≠0/\∀j,len-k<=j->j<len->ds[j]?.getD 0=0)) ⟨i,o⟩;clear o i;gi_wp2;refine⟨O,.inl ⟨_,_,rfl,BW g,?_⟩⟩;have A:=c1.kept (BU _ D (E none)) (λe=>by cases e;rw[show W.heap[w.heap.size+1]?=_ from c1]at g;cases g);have q:=A.cell;have Q:Below w.heap.size w (W.putObj D (E none)):=f.trans (DK (w:=w) (Aa _) _ D _ _ (by simp at hD;omega) g rfl rfl);have am:=P.out;have e:JI ds=ds.take (len-1-k+1):=by
   refine Ry ds (len-1-k) Y ?_ ?_
   . intro h0;apply d.out.1;rw[h0];rfl
   . intro j V y;exact N2 y (d.out.2 j Y Y)
  have L:(ds.take (len-1-k+1)).length=len-1-k+1:=by rw[Ap];omega
  refine⟨B a (len-1-k+1) cap,by simp[results,Tryz.results128,go_sem,q],_,rfl,⟨?_,Q⟩,Or.inr (by rw[e,L])⟩;rw[e];have hr:=Row.below h Q;obtain⟨_,_,_,_,ad⟩:=JA hr;obtain⟨b,off,s,hb,_⟩:=ad (len-1-k) Y;have M:Ee .u64 (W.putObj D (E none)) b:=by
   obtain⟨F,o2,T,M⟩:=hr.typ Y;rw[s]at T;cases T;exact M
  refine⟨a,cap,by rw[L],Y,ah,Y,Or.inr ⟨b,off,s,M,λj r=>?_⟩⟩;rw[L]at r;obtain⟨b',ap,U,_,af⟩:=ad j Y;rw[s]at U;cases U;rw[af,AX r]
theorem YD(v:H)(ds:List Nat)(w:C)(h:Row .u64 w v ds):
 Calls Tryz.prog 128 #[v] w λe b=>∃u,e=.returned u/\Row .u64 b u (JI ds)/\Below w.heap.size w b:=by
 obtain⟨a,cap,rfl,f⟩:=id h;refine(KT a _ cap ds w h).mono ?_;rintro e b ⟨u,rfl,⟨c,d⟩,_⟩;exact⟨u,rfl,c,d⟩
theorem SV(F:Fence)(n:Nat)(A:F.fn 176)(D:F.round=none)(S:1<=n)(f:Nat)(a:Option Addr)(len cap:Nat)(s:Nat->Nat)(R:len<=4398046511104):
 Ij F n Tryz.prog 176 #[.pointer (some ⟨f,0,none⟩)] len (XQ len s) (N1 f a len cap s):=λl u I W o y j=>by
 have N:=(o 0 W j).1;refine Bs Tryz.func176 rfl A ?_ D;simp only[Tryz.ntmps176,Ar,Ao,AG,Nat.reduceAdd,Nat.reduceSub,AA,AB,AR,AJ,At,AF];gi_wp2;gi_loopw [3] (λi wr=>∃k:Nat,k<=len/\i=.int .i64 ((len:Int)-1-k)/\u k wr) λi _=>(intOf i+1).toNat
 case atStart=>exact⟨0,AK _,O,j⟩
 case round=>
  obtain⟨k,Q,rfl,c⟩:=hrel;obtain⟨M,z⟩:=o k wr c;by_cases d:k<len
  . obtain⟨b,off,rfl,P⟩:=z d;obtain⟨fn,tmps,assign,body,r,x⟩:=y k wr c d;have g:((len:Int)-1-k)=((len-1-k:Nat):Int):=Y
    have L:len-1-k<len:=Y
    dsimp only[XQ]at r;rw[g]at r ⊢;generalize q:len-1-k=m at *;have t:=DE (p:=Hid (len-1-k=m)) q;clear q g;gi_wp2;refine x.mono ?_;rintro e K (⟨rfl,v⟩|⟨rfl,w⟩)
    . gi_wp2;go_roundw
      case rel=>exact⟨k+1,Y,by(congr 1;have:=t.out;omega),v⟩
      case measure=>simp[intOf]
    . gi_wp2;refine BB (results_none rfl _ _ _) rfl ?_;exact⟨⟨_,rfl⟩,.inr ⟨k,d,w⟩⟩
  . obtain rfl:k=len:=Y
    gi_wp2;go_end0;exact⟨⟨_,rfl⟩,.inl c⟩
theorem SW(F:Fence)(n:Nat)(b:F.fn 154)(c:F.round=none)(a:Option Addr)(len cap:Nat)(w:C):
 CallsIn F n Tryz.prog 154 #[B a len cap] w λe d=>e=.returned (.func (.func 176) #[] #[.pointer (some ⟨w.heap.size,0,none⟩)])/\d=w.alloc (G #[B a len cap] 60):=by
 refine Bs Tryz.func154 rfl b ?_ c;simp only[Tryz.ntmps154,Ar,Ao,AG,Nat.reduceAdd,Nat.reduceSub,AA,AB,AR,AJ,At,AF];gi_wp2;go_ret;exact⟨rfl,rfl⟩
end
variable {F:Fence} {n:Nat} {P:Program}
theorem N9{g:Operand}{ps:Array Tmp}{assign body:Code}{Q:Exit->Act->C->Prop}{a:Act}{w:C}
(ay:F.round=none)(h1:1<=n){gf:Nat}{lb:Array H}(hg:a.eval g=.func (.func gf) #[] lb)(af:F.fn gf)(eg:∀args w,(callFunc gf args).run P w=.ok (.enter gf args) w)
{N:Nat}{args:Nat->Array H}{Rd:Nat->C->Prop}(az:Ij F (n-1) P gf lb N args Rd)(aw:∀k,(args k).size=ps.size)
(I:Nat->C->Prop)(M:Code->Nat->C->Prop)(x:OwnFrom w.heap.size I)(R:∀c,OwnFrom w.heap.size (M c))(h0:I 0 w)(ah:∀k W,I k W->Rd k W)(a₁:Nat->Nat->Act)(o:Nat->Obj)
(ai:∀(l k:Nat) (W:C) (K:Act->C->Prop),K (a₁ k W.heap.size) (W.alloc (o k))->
  assign.wpIn (F.inRound l) (n-1-1) P (Exit.then K λ_ _ _=>False) { tmps:=(ps.zip (args k)).foldl (λt (p,v)=>t.setIfInBounds p v) a.tmps,defers:=[] } W)
(ak:∀(l k b:Nat) (W:C),I k W->k<N->w.heap.size<W.heap.size->w.heap.size+1<b->W.heap[b]?=some (o k)->body.wpIn (F.inRound l) (n-1-1) P (roundPost w.heap.size I M k W) (a₁ k b) W)
(an:∀(D:Nat) (W:C),w.heap.size<=D->I N W->W.heap[D]?=some (E (some []))->Q .normal { a with defers:={ target:=.collected D,args:=#[] }::a.defers } W)
(ba:∀(D:Nat) (c:Code) (k:Nat) (W:C),w.heap.size<=D->k<N->M c k W->W.heap[D]?=some (E (some []))->c.wpIn F n P Q { a with defers:={ target:=.collected D,args:=#[] }::a.defers } W):
 (Code.rangeFunc g ps assign body).wpIn F n P Q a w:=by
 refine wpIn_rangeFunc λfn ap=>?_;rw[ay];obtain⟨rc,m⟩:∃rc:LoopState->Option Code->Loop,rc=λst pe=>{ state:=st,pending:=pe,fn,tmps:=a.tmps,params:=ps,assign,body,defers:=w.heap.size }:=⟨_,rfl⟩;obtain⟨V,S⟩:=ex ((w.alloc (E (some []))).alloc (.loop (rc .ready none)));have vL:V.heap[w.heap.size+1]?=some (.loop (rc .ready none)):=by
  rw[<-S];have:=BD (w.alloc (E (some []))) (.loop (rc .ready none));rwa[BA]at this
 have vD:V.heap[w.heap.size]?=some (E (some [])):=by
  rw[<-S];exact(Bf _ _ _ O).trans (BD w _)
 have vI:I 0 V:=by rw[<-S];exact x.alloc _ (x.alloc _ h0)
 refine⟨w.heap.size+1,[{ target:=.collected w.heap.size,args:=#[] }],V,{ target:=.fn (.func gf) lb,args:=#[.func (.yield (w.heap.size+1)) #[] #[]] },V,gf,
  #[.func (.yield (w.heap.size+1)) #[] #[]]++lb,V,?_,?_,?_,?_,λ_=>h1,?_⟩
 . rw[<-S,m];exact run_enterLoop_outer _ _ _ _ _
 . simp only[resolve,hg];simp[go_sem]
 . intro f' ad;simp[Target.leads]at ad;subst ad;exact af
 . simp[invoke,go_sem,eg]
 refine(az (w.heap.size+1)
  (λk W=>I k W/\W.heap[w.heap.size+1]?=some (.loop (rc .ready none))/\W.heap[w.heap.size]?=some (E (some [])))
  (λk W=>∃c,M c k W/\W.heap[w.heap.size+1]?=some (.loop (rc .done (some c)))/\W.heap[w.heap.size]?=some (E (some [])))
  V (λk W h=>ah k W h.1) ?_ ⟨vI,vL,vD⟩).mono ?_
 . rintro k W ⟨A,hl,L⟩ av;have U:w.heap.size+1<W.heap.size:=(Ae.1 hl).1;have hy:=run_yield (P:=P) (args:=args k) hl (by rw[m];exact aw k);rw[m]at hy;obtain⟨u,y⟩:=ex (W.alloc (o k));have T:u.heap[w.heap.size+1]?=some (.loop (rc .ready none)):=by rw[<-y];exact(Bf _ _ _ U).trans hl
   have Qi:u.heap[w.heap.size]?=some (E (some [])):=by rw[<-y];exact(Bf _ _ _ Y).trans L
   have Qg:I k u:=by rw[<-y];exact x.alloc _ A
   have Qf:u.heap[W.heap.size]?=some (o k):=by rw[<-y];exact BD W _
   refine⟨fn,_,assign,body,hy,roundIn_of_wpIn ap (ai _ k W _ ?_)⟩;rw[y];refine⟨_,run_beginRound T (by rw[m]),?_⟩;obtain⟨bx,am⟩:=ex (W.heap.size);rw[am]at Qf U ⊢;have Qc:w.heap.size+1<u.heap.size:=(Ae.1 T).1;obtain⟨q,z⟩:=ex (u.putObj (w.heap.size+1) (.loop { rc .ready none with state:=.busy }));rw[z];have Qh:q.heap[w.heap.size+1]?=some (.loop { rc .ready none with state:=.busy }):=by rw[<-z];exact Bh Qc
   have Ql:q.heap[bx]?=some (o k):=by rw[<-z];exact(BR Y).trans Qf
   have X:q.heap[w.heap.size]?=some (E (some [])):=by rw[<-z];exact(BR Y).trans Qi
   have Qj:I k q:=by rw[<-z];exact x.putObj _ Qg Y T rfl
   have Qk:w.heap.size<q.heap.size:=(Ae.1 X).1;have fin:∀(i:Option Code) (f:C),KeepsFrom w.heap.size q f->
    (Instr.endRound (w.heap.size+1) i).run P f=.ok (.bool i.isNone) (f.putObj (w.heap.size+1) (.loop (rc (if i.isNone then .ready else .done) i)))/\
    f.heap[w.heap.size+1]?=some (.loop { rc .ready none with state:=.busy })/\
    (f.putObj (w.heap.size+1) (.loop (rc (if i.isNone then .ready else .done) i))).heap[w.heap.size+1]?=some (.loop (rc (if i.isNone then .ready else .done) i))/\
    (f.putObj (w.heap.size+1) (.loop (rc (if i.isNone then .ready else .done) i))).heap[w.heap.size]?=some (E (some [])):=λi f ae=>by
    have d:=ae.same _ _ Y Qh rfl;have j:=run_endRound (P:=P) i d;rw[m]at j ⊢;exact⟨j,by rw[m]at d;exact d,Bh (Ae.1 d).1,(BR Y).trans (ae.same _ _ (Aa _) X rfl)⟩
   refine wpIn_mono (ak _ k bx q Qj av Qk U Ql) λe a3 f hp=>?_;cases e with
   |normal=>
    obtain⟨j,d,s,r⟩:=fin none f hp.1;exact⟨_,_,j,.inl ⟨rfl,x.putObj _ hp.2 Y d rfl,s,r⟩⟩
   |ret=>
    obtain⟨j,d,s,r⟩:=fin (some .ret) f hp.1;exact⟨_,_,j,.inr ⟨rfl,.ret,(R _).putObj _ hp.2 Y d rfl,s,r⟩⟩
   |exit id=>
    obtain⟨j,d,s,r⟩:=fin (some (.exit id)) f hp.1;exact⟨_,_,j,.inr ⟨rfl,.exit id,(R _).putObj _ hp.2 Y d rfl,s,r⟩⟩
   |goto t=>
    obtain⟨j,d,s,r⟩:=fin (some (.goto t)) f hp.1;exact⟨_,_,j,.inr ⟨rfl,.goto t,(R _).putObj _ hp.2 Y d rfl,s,r⟩⟩
   |panic ch=>exact hp.elim
   |outgrown=>exact hp.elim
 . rintro e q ⟨⟨v,rfl⟩,(⟨A,hl,L⟩|⟨k,aq,c,A,hl,L⟩)⟩
   . exact⟨none,_,by have:=run_endLoop (P:=P) hl (by rw[m];simp);rw[m]at this;exact this,an _ _ (Aa _) (x.putObj _ A Y hl rfl) ((BR Y).trans L)⟩
   . exact⟨some c,_,by have:=run_endLoop (P:=P) hl (by rw[m];simp);rw[m]at this;exact this,ba _ c k _ (Aa _) aq ((R c).putObj _ A Y hl rfl) ((BR Y).trans L)⟩

