import Derived.RangeFuncNested
import Derived.RangeFuncBound
import Derived.RangeFuncCalls
import Derived.RangeFuncLeaves
import Derived.RangeFuncBox
import Derived.Shelf.Abstract
import Derived.Shelf.RegionOpen
import Derived.WalkKit
import Derived.WalkSpells
import Derived.WalkLawsBesides
import Derived.OwnWalkIn
import Derived.TacticsInMore
import Derived.LoopNIn
import Derived.LoopIn
import Derived.Maps.AppendAt
import Derived.Deep.QuietTactic
import Derived.BigQuiet
import Derived.Test.YtakpoihdghihmaaGreatDoorR02
import Derived.Test.YtakpoihdghihmaaGreatDoorProg
open Go.Value renaming slice->B
open Go renaming World->C,Value->H
open Go.Obj renaming deferred->E,cells->G
set_option maxRecDepth 100000
set_option maxHeartbeats 16000000
namespace Go.Proofs.YtakpoihdghihmaaGreatDoor
open Go.RowKit Go.Shelf
section
theorem DE:type_of% @ownFrom_pure:=@ownFrom_pure
theorem DB:type_of% @Hid.out:=@Hid.out
theorem B7:type_of% @ownFrom_below:=@ownFrom_below
theorem Bz:type_of% @belowK_b:=@belowK_b
theorem Br:type_of% @callsIn_of_wp:=@callsIn_of_wp
theorem Bi:type_of% @Own.from:=@Own.from
theorem Bh:type_of% @Below.heap_alloc:=@Below.heap_alloc
theorem Bg:type_of% @enters_of:=@enters_of
theorem Bb:type_of% @World.putObj_heap_same:=@World.putObj_heap_same
theorem BU:type_of% @grownBy_putObj':=@grownBy_putObj'
theorem BR:type_of% @run_takeDeferred:=@run_takeDeferred
theorem BP:type_of% @OwnFrom.and:=@OwnFrom.and
theorem BN:type_of% @callsIn_of_wp_marks:=@callsIn_of_wp_marks
theorem BK:type_of% @World.putObj_heap_other:=@World.putObj_heap_other
theorem BI:type_of% @KeepsOthers.setCell:=@KeepsOthers.setCell
theorem BH:type_of% @callsIn_wide:=@callsIn_wide
theorem BG:type_of% @Boxed.new:=@Boxed.new
theorem BF:type_of% @Below.refl:=@Below.refl
theorem BE:type_of% @World.alloc_heap_new:=@World.alloc_heap_new
theorem BD:type_of% @Below.heap_setCell:=@Below.heap_setCell
theorem BB:type_of% @bodyPost_ret:=@bodyPost_ret
theorem Ax:type_of% @World.size_alloc:=@World.size_alloc
abbrev KS(k:IntKind):TypeId:=match k with|.i64=>3|_=>115
def Es(k:IntKind)(W:C)(b:Nat):Prop:=∃cs m,W.heap[b]?=some (G cs (KS k) m)
variable{k:IntKind}{ds:List Nat}{b:Nat}{W W':C}
theorem Es.lt(h:Es k W b):b<W.heap.size:=by obtain⟨cs,m,h⟩:=h;exact(Ab.1 h).1
theorem Es.of(h:Es k W b)(e:W'.heap[b]?=W.heap[b]?):Es k W' b:=by obtain⟨cs,m,h⟩:=h;exact⟨cs,m,e.trans h⟩
theorem Es.below(h:Es k W b)(a:Below W.heap.size W W'):Es k W' b:=h.of (a.block b h.lt)
theorem Es.set(h:Es k W b)(p:Addr)(u:H):Es k (W.setCell p u) b:=by
 by_cases e:b=p.block
 . obtain⟨cs,m,h⟩:=h;obtain⟨c,a⟩:=Ab.1 h;subst e;refine⟨if p.spot.isSome=true then cs else cs.setIfInBounds p.off u,m,?_⟩;show(W.heap.modify p.block _)[p.block]?=_;rw[Cf (by rw[CU];exact c),Cm,a]
 . exact h.of (BD W p u b e)
def Row(k:IntKind)(W:C)(v:H)(ds:List Nat):Prop:=
 ∃a cap,v=B a ds.length cap/\ds.length<=cap/\cap<=9223372036854775807/\ds.length<=1099511627776/\
  (ds=[]\/∃b off,a=some ⟨b,off,none⟩/\Es k W b/\∀j,j<ds.length->W.cell? ⟨b,off+j,none⟩=some (.int k (ds[j]?.getD 0:Nat)))
theorem Row.below{k:IntKind}{W W':C}{v:H}{ds:List Nat}(h:Row k W v ds)(d:Below W.heap.size W W'):Row k W' v ds:=by
 obtain⟨a,cap,e,i,l,m,c⟩:=h;refine⟨a,cap,e,i,l,m,?_⟩;rcases c with c|⟨b,off,g,f,n⟩
 . exact Or.inl c
 . exact Or.inr ⟨b,off,g,f.below d,λj o=>(d.cell (p:=⟨b,off+j,none⟩) f.lt).trans (n j o)⟩
theorem Row.typ{a:Option Addr}{l cap:Nat}(h:Row k W (B a l cap) ds)(d:0<l):∃b off,a=some ⟨b,off,none⟩/\Es k W b:=by
 obtain⟨a',i,e,_,_,_,c⟩:=h;cases e;rcases c with c|⟨b,off,f,g,_⟩
 . rw[c]at d;simp at d
 . exact⟨b,off,f,g⟩
theorem Row.nil(k:IntKind)(W:C):Row k W (B none 0 0) []:=⟨none,0,rfl,Aa _,O,Z,Or.inl rfl⟩
theorem Row.open{v:H}(h:Row k W v ds):∃a cap,v=B a ds.length cap/\ds.length<=cap/\cap<=9223372036854775807/\ds.length<=1099511627776/\
 Hid (∀j,j<ds.length->∃b off,a=some ⟨b,off,none⟩/\b<W.heap.size/\W.cell? ⟨b,off+j,none⟩=some (.int k (ds[j]?.getD 0:Nat))):=by
 obtain⟨a,cap,e,g,i,l,c⟩:=h;refine⟨a,cap,e,g,i,l,λj d=>?_⟩;rcases c with c|⟨b,off,f,m,n⟩
 . rw[c]at d;simp at d
 . exact⟨b,off,f,m.lt,n j d⟩
theorem Tryz.infoU64:(Tryz.prog.info? 115).map (λi=>(i.zero,i.size,i.bytes))=some (some (.int .u64 0),1,8):=by kernel_rfl
def cellsOf(k:IntKind)(ds:List Nat):List H:=ds.map λd=>Value.int k (d:Nat)
theorem Mr(k:IntKind)(ds:List Nat):(cellsOf k ds).length=ds.length:=by simp[cellsOf]
def PG:H->Nat|B _ k _=>k|_=>0
def RN(W:C)(v:H)(n:Nat):Prop:=Row .i64 W v (Ji 10000 n)
def K7(F:Fence)(n:Nat)(P:Program)(g:Nat)(lb:Array H)(N:Nat)(args:Nat->Array H)(Rd:Nat->C->Prop):Prop:=
 ∀(l:Nat) (J b:Nat->C->Prop) (W:C),(∀k a,J k a->Rd k a)->
  (∀k a,J k a->k<N->YieldAt F (n-1) P l (args k) a λe W'=>(e=.returned (.bool true)/\J (k+1) W')\/(e=.returned (.bool false)/\b k W'))->
  J 0 W->CallsIn F n P g (#[.func (.yield l) #[] #[]]++lb) W λe W'=>(∃v,e=.returned v)/\(J N W'\/∃k,k<N/\b k W')
def roundPost(B:Nat)(I:Nat->C->Prop)(a:Code->Nat->C->Prop)(k:Nat)(W:C):Exit->Act->C->Prop
 |.normal,_,W'=>KeepsFrom B W W'/\I (k+1) W'
 |.ret,_,W'=>KeepsFrom B W W'/\a .ret k W'
 |.exit id,_,W'=>KeepsFrom B W W'/\a (.exit id) k W'
 |.goto t,_,W'=>KeepsFrom B W W'/\a (.goto t) k W'
 |.panic _,_,_=>False
 |.outgrown,_,_=>False
variable {F:Fence} {n:Nat} {P:Program}
theorem Xd{g:Operand}{ps:Array Tmp}{assign body:Code}{Q:Exit->Act->C->Prop}{a:Act}{w:C}
(ap:F.round=none)(h1:1<=n){gf:Nat}{lb:Array H}(hg:a.eval g=.func (.func gf) #[] lb)(ad:F.fn gf)(eg:∀args w,(callFunc gf args).run P w=.ok (.enter gf args) w)
{N:Nat}{args:Nat->Array H}{Rd:Nat->C->Prop}(aq:K7 F (n-1) P gf lb N args Rd)(an:∀k,(args k).size=ps.size)
(I:Nat->C->Prop)(x:Code->Nat->C->Prop)(r:OwnFrom w.heap.size I)(y:∀c,OwnFrom w.heap.size (x c))(h0:I 0 w)(ae:∀k W,I k W->Rd k W)(M:Nat->Act)
(af:∀(l k:Nat) (W:C) (K:Act->C->Prop),K (M k) W->
  assign.wpIn (F.inRound l) (n-1-1) P (Exit.then K λ_ _ _=>False) { tmps:=(ps.zip (args k)).foldl (λt (p,v)=>t.setIfInBounds p v) a.tmps,defers:=[] } W)
(ah:∀(l k:Nat) (W:C),I k W->k<N->w.heap.size<W.heap.size->body.wpIn (F.inRound l) (n-1-1) P (roundPost w.heap.size I x k W) (M k) W)
(ai:∀(D:Nat) (W:C),w.heap.size<=D->I N W->W.heap[D]?=some (E (some []))->Q .normal { a with defers:={ target:=.collected D,args:=#[] }::a.defers } W)
(aw:∀(D:Nat) (c:Code) (k:Nat) (W:C),w.heap.size<=D->k<N->x c k W->W.heap[D]?=some (E (some []))->c.wpIn F n P Q { a with defers:={ target:=.collected D,args:=#[] }::a.defers } W):
 (Code.rangeFunc g ps assign body).wpIn F n P Q a w:=by
 refine wpIn_rangeFunc λfn aj=>?_;rw[ap];obtain⟨rc,j⟩:∃rc:LoopState->Option Code->Loop,rc=λst pe=>{ state:=st,pending:=pe,fn,tmps:=a.tmps,params:=ps,assign,body,defers:=w.heap.size }:=⟨_,rfl⟩;obtain⟨V,z⟩:=ex ((w.alloc (E (some []))).alloc (.loop (rc .ready none)));have vL:V.heap[w.heap.size+1]?=some (.loop (rc .ready none)):=by
  rw[<-z];have:=BE (w.alloc (E (some []))) (.loop (rc .ready none));rwa[Ax]at this
 have vD:V.heap[w.heap.size]?=some (E (some [])):=by
  rw[<-z];exact(Bh _ _ _ Z).trans (BE w _)
 have vI:I 0 V:=by rw[<-z];exact r.alloc _ (r.alloc _ h0)
 refine⟨w.heap.size+1,[{ target:=.collected w.heap.size,args:=#[] }],V,{ target:=.fn (.func gf) lb,args:=#[.func (.yield (w.heap.size+1)) #[] #[]] },V,gf,
  #[.func (.yield (w.heap.size+1)) #[] #[]]++lb,V,?_,?_,?_,?_,λ_=>h1,?_⟩
 . rw[<-z,j];exact run_enterLoop_outer _ _ _ _ _
 . simp only[resolve,hg];simp[go_sem]
 . intro f' R;simp[Target.leads]at R;subst R;exact ad
 . simp[invoke,go_sem,eg]
 refine(aq (w.heap.size+1)
  (λk W=>I k W/\W.heap[w.heap.size+1]?=some (.loop (rc .ready none))/\W.heap[w.heap.size]?=some (E (some [])))
  (λk W=>∃c,x c k W/\W.heap[w.heap.size+1]?=some (.loop (rc .done (some c)))/\W.heap[w.heap.size]?=some (E (some [])))
  V (λk W h=>ae k W h.1) ?_ ⟨vI,vL,vD⟩).mono ?_
 . rintro k W ⟨s,hl,u⟩ am;have Qf:w.heap.size+1<W.heap.size:=(Ab.1 hl).1;have T:=run_yield (P:=P) (args:=args k) hl (by rw[j];exact an k);rw[j]at T;refine⟨fn,_,assign,body,T,roundIn_of_wpIn aj (af _ k W _ ⟨_,run_beginRound hl (by rw[j]),?_⟩)⟩;obtain⟨m,A⟩:=ex (W.putObj (w.heap.size+1) (.loop { rc .ready none with state:=.busy }));rw[A];have U:m.heap[w.heap.size+1]?=some (.loop { rc .ready none with state:=.busy }):=by rw[<-A];exact Bb Qf
   have L:m.heap[w.heap.size]?=some (E (some [])):=by rw[<-A];exact(BK O).trans u
   have X:I k m:=by rw[<-A];exact r.putObj _ s O hl rfl
   have Qe:w.heap.size<m.heap.size:=(Ab.1 L).1;have fin:∀(f:Option Code) (d:C),KeepsFrom w.heap.size m d->
    (Instr.endRound (w.heap.size+1) f).run P d=.ok (.bool f.isNone) (d.putObj (w.heap.size+1) (.loop (rc (if f.isNone then .ready else .done) f)))/\
    d.heap[w.heap.size+1]?=some (.loop { rc .ready none with state:=.busy })/\
    (d.putObj (w.heap.size+1) (.loop (rc (if f.isNone then .ready else .done) f))).heap[w.heap.size+1]?=some (.loop (rc (if f.isNone then .ready else .done) f))/\
    (d.putObj (w.heap.size+1) (.loop (rc (if f.isNone then .ready else .done) f))).heap[w.heap.size]?=some (E (some [])):=λf d S=>by
    have b:=S.same _ _ O U rfl;have i:=run_endRound (P:=P) f b;rw[j]at i ⊢;exact⟨i,by rw[j]at b;exact b,Bb (Ab.1 b).1,(BK O).trans (S.same _ _ (Aa _) L rfl)⟩
   refine wpIn_mono (ah _ k m X am Qe) λe a3 d hp=>?_;cases e with
   |normal=>
    obtain⟨i,b,q,o⟩:=fin none d hp.1;exact⟨_,_,i,.inl ⟨rfl,r.putObj _ hp.2 O b rfl,q,o⟩⟩
   |ret=>
    obtain⟨i,b,q,o⟩:=fin (some .ret) d hp.1;exact⟨_,_,i,.inr ⟨rfl,.ret,(y _).putObj _ hp.2 O b rfl,q,o⟩⟩
   |exit id=>
    obtain⟨i,b,q,o⟩:=fin (some (.exit id)) d hp.1;exact⟨_,_,i,.inr ⟨rfl,.exit id,(y _).putObj _ hp.2 O b rfl,q,o⟩⟩
   |goto t=>
    obtain⟨i,b,q,o⟩:=fin (some (.goto t)) d hp.1;exact⟨_,_,i,.inr ⟨rfl,.goto t,(y _).putObj _ hp.2 O b rfl,q,o⟩⟩
   |panic ch=>exact hp.elim
   |outgrown=>exact hp.elim
 . rintro e m ⟨⟨v,rfl⟩,(⟨s,hl,u⟩|⟨k,ak,c,s,hl,u⟩)⟩
   . exact⟨none,_,by have:=run_endLoop (P:=P) hl (by rw[j];simp);rw[j]at this;exact this,ai _ _ (Aa _) (r.putObj _ s O hl rfl) ((BK O).trans u)⟩
   . exact⟨some c,_,by have:=run_endLoop (P:=P) hl (by rw[j];simp);rw[j]at this;exact this,aw _ c k _ (Aa _) ak ((y c).putObj _ s O hl rfl) ((BK O).trans u)⟩
end
section
attribute [local go_sem] Oper.semAt_some
def Tt(c:Nat)(a:Option Addr)(len cap:Nat)(d:Nat->Nat)(k:Nat)(W:C):Prop:=
 W.cell? ⟨c,0,none⟩=some (B a len cap)/\(k<len->∃b off,a=some ⟨b,off,none⟩/\W.cell? ⟨b,off+(len-1-k),none⟩=some (.int .u64 (d (len-1-k):Nat)))
def IF(len:Nat)(a:Nat->Nat)(k:Nat):Array H:=#[.int .i64 ((len:Int)-1-k),.int .u64 (a (len-1-k):Nat)]
variable{ds:List Nat}
theorem KT(F:Fence)(n:Nat)(z:F.fn 169)(A:F.round=none)(R:1<=n)(f:Nat)(a:Option Addr)(len cap:Nat)(s:Nat->Nat)(Q:len<=1099511627776):
 K7 F n Tryz.prog 169 #[.pointer (some ⟨f,0,none⟩)] len (IF len s) (Tt f a len cap s):=λl J D W o x j=>by
 have M:=(o 0 W j).1;refine Br Tryz.func169 rfl z ?_ A;simp only[Tryz.ntmps169,As,Af,Ay,Nat.reduceAdd,Nat.reduceSub,Av,Aw,AG,AC,Ar,Au];gi_wp2;gi_loopw [3] (λi wr=>∃k:Nat,k<=len/\i=.int .i64 ((len:Int)-1-k)/\J k wr) λi _=>(intOf i+1).toNat
 case atStart=>exact⟨0,AO _,Z,j⟩
 case round=>
  obtain⟨k,P,rfl,c⟩:=hrel;obtain⟨L,y⟩:=o k wr c;by_cases d:k<len
  . obtain⟨b,off,rfl,N⟩:=y d;obtain⟨fn,tmps,assign,body,r,w⟩:=x k wr c d;have g:((len:Int)-1-k)=((len-1-k:Nat):Int):=O
    have K:len-1-k<len:=O
    dsimp only[IF]at r;rw[g]at r ⊢;generalize q:len-1-k=m at *;have t:=DB (p:=Hid (len-1-k=m)) q;clear q g;gi_wp2;refine w.mono ?_;rintro e I (⟨rfl,u⟩|⟨rfl,v⟩)
    . gi_wp2;go_roundw
      case rel=>exact⟨k+1,O,by(congr 1;have:=t.out;omega),u⟩
      case measure=>simp[intOf]
    . gi_wp2;refine BB (results_none rfl _ _ _) rfl ?_;exact⟨⟨_,rfl⟩,.inr ⟨k,d,v⟩⟩
  . obtain rfl:k=len:=O
    gi_wp2;go_end0;exact⟨⟨_,rfl⟩,.inl c⟩
theorem KU(F:Fence)(n:Nat)(b:F.fn 128)(c:F.round=none)(a:Option Addr)(len cap:Nat)(w:C):
 CallsIn F n Tryz.prog 128 #[B a len cap] w λe d=>e=.returned (.func (.func 169) #[] #[.pointer (some ⟨w.heap.size,0,none⟩)])/\d=w.alloc (G #[B a len cap] 33):=by
 refine Br Tryz.func128 rfl b ?_ c;simp only[Tryz.ntmps128,As,Af,Ay,Nat.reduceAdd,Nat.reduceSub,Av,Aw,AG,AC,Ar,Au];gi_wp2;go_ret;exact⟨rfl,rfl⟩
theorem JH{k:IntKind}{W:C}{a:Option Addr}{l cap:Nat}(h:Row k W (B a l cap) ds):l=ds.length/\l<=cap/\cap<=9223372036854775807/\l<=1099511627776/\
 ∀j,j<l->∃b off,a=some ⟨b,off,none⟩/\b<W.heap.size/\W.cell? ⟨b,off+j,none⟩=some (.int k (ds[j]?.getD 0:Nat)):=by
 obtain⟨a',c',e,c,d,f,g⟩:=Row.open h;cases e;exact⟨rfl,c,d,f,g⟩
theorem PH{j:Nat}(a:j<ds.length)(h:ds[j]?.getD 0=0):ds[j]?=some 0:=by
 rw[Am a]at h ⊢;exact Bw some h
def PI(w:C)(a:Option Addr)(len cap:Nat)(ds:List Nat)(k:Nat)(W:C):Prop:=
 (((Boxed W w.heap.size 33 (B a len cap)/\Boxed W (w.heap.size+1) 33 (B none 0 0))/\Boxed W (w.heap.size+1+1) 33 (B a len cap))/\Below w.heap.size w W)/\∀j,len-k<=j->j<len->ds[j]?.getD 0=0
def PJ(w:C)(a:Option Addr)(len cap:Nat)(ds:List Nat)(c:Code)(k:Nat)(W:C):Prop:=
 (Boxed W (w.heap.size+1) 33 (B a (len-1-k+1) cap)/\Below w.heap.size w W)/\(c=.ret/\ds[len-1-k]?.getD 0≠0/\∀j,len-k<=j->j<len->ds[j]?.getD 0=0)
theorem Tu(w:C)(a:Option Addr)(len cap:Nat)(ds:List Nat):OwnFrom (w.heap.size+1+1+1) (PI w a len cap ds):=
 BP (BP (BP (BP (Bi (boxed_own _ _ λ_=>B a len cap) _) (Bi (boxed_own _ _ λ_=>B none 0 0) _)) (Bi (boxed_own _ _ λ_=>B a len cap) _)) (B7 (Aa _) O)) (DE _ _)
theorem Tv(w:C)(a:Option Addr)(len cap:Nat)(ds:List Nat)(c:Code):OwnFrom (w.heap.size+1+1+1) (PJ w a len cap ds c):=
 BP (BP (Bi (boxed_own _ _ λk=>B a (len-1-k+1) cap) _) (B7 (Aa _) O)) (DE _ _)
theorem Ms(a:Option Addr)(len cap:Nat)(ds:List Nat)(w:C)(h:Row .u64 w (B a len cap) ds):
 Calls Tryz.prog 73 #[B a len cap] w λe N=>∃u,e=.returned u/\(Row .u64 N u (J6 ds)/\Below w.heap.size w N)/\(u=B none 0 0/\J6 ds=[]\/u=B a (J6 ds).length cap):=by
 obtain⟨hl,aj,ah,ai,z⟩:=JH h;have P:=DB (p:=Hid (len=ds.length)) hl;have HC:=DB (p:=Hid (∀j,j<len->∃b off,a=some ⟨b,off,none⟩/\b<w.heap.size/\w.cell? ⟨b,off+j,none⟩=some (.int .u64 (ds[j]?.getD 0:Nat)))) z;clear z hl;refine(BH (n:=3)).1 ?_;refine BN Tryz.func73 rfl trivial ?_ rfl;simp only[Tryz.ntmps73,As,Af,Ay,Nat.reduceAdd,Nat.reduceSub,Av,Aw,AG,AC,Ar,Au];gi_wp2_with(refine⟨trivial,?_⟩;gi_at_call 128;refine(KU Fence.wide _ trivial rfl _ _ _ _).mono ?_;rintro e N ⟨rfl,rfl⟩)
 have b0:=((BG w 33 (B a len cap)).alloc (G #[B none 0 0] 33)).alloc (G #[B a len cap] 33);have R:=(BG (w.alloc (G #[B a len cap] 33)) 33 (B none 0 0)).alloc (G #[B a len cap] 33);have F:=BG ((w.alloc (G #[B a len cap] 33)).alloc (G #[B none 0 0] 33)) 33 (B a len cap);simp only[Ax]at R F;have Qd:Below w.heap.size w (((w.alloc (G #[B a len cap] 33)).alloc (G #[B none 0 0] 33)).alloc (G #[B a len cap] 33)):=(((BF _ w).alloc (Aa _) _).alloc Z _).alloc si _;have X:(((w.alloc (G #[B a len cap] 33)).alloc (G #[B none 0 0] 33)).alloc (G #[B a len cap] 33)).heap.size=w.heap.size+1+1+1:=Z
 refine Xd rfl O (gf:=169) (lb:=#[.pointer (some ⟨w.heap.size+1+1,0,none⟩)]) rfl trivial (Bg Tryz.func169 (by kernel_rfl) rfl)
  (KT Fence.wide _ trivial rfl O (w.heap.size+1+1) a len cap (λj=>ds[j]?.getD 0) ai) (λ_=>rfl)
  (PI w a len cap ds) (PJ w a len cap ds) (by rw[X];exact Tu w a len cap ds) (λc=>by rw[X];exact Tv w a len cap ds c)
  ⟨⟨⟨⟨b0,R⟩,F⟩,Qd⟩,λj V y=>by omega⟩ ?rd
  (λk=>{ tmps:=#[B a len cap,.pointer (some ⟨w.heap.size,0,none⟩),.pointer (some ⟨w.heap.size+1,0,none⟩),.int .i64 ((len:Int)-1-k),.int .u64 (ds[len-1-k]?.getD 0:Nat),B a len cap,.func (.func 169) #[] #[.pointer (some ⟨w.heap.size+1+1,0,none⟩)],.int .i64 ((len:Int)-1-k),.int .u64 (ds[len-1-k]?.getD 0:Nat),undef,undef,undef,undef,undef,undef],defers:=[] }) ?assign ?body ?done ?stop
 case rd=>
  rintro k W ⟨⟨⟨_,c2⟩,f⟩,_⟩;refine⟨c2.cell,λhk=>?_⟩;obtain⟨b,off,s,hb,z⟩:=HC.out (len-1-k) O;exact⟨b,off,s,(f.cell (p:=⟨b,off+(len-1-k),none⟩) hb).trans z⟩
 case assign=>
  intro l k W K g;unfold IF;gi_wp2;exact g
 case body=>
  rintro l k W ⟨⟨⟨⟨c0,c1⟩,c2⟩,f⟩,o⟩ hk am;have d0:=c0.cell;have d1:=c1.cell;have f1:=c1.frozen;have d:=DB (p:=Hid (∀j,len-k<=j->j<len->ds[j]?.getD 0=0)) o;clear o;have I:((len:Int)-1-k)=((len-1-k:Nat):Int):=O
  rw[I];by_cases i:ds[len-1-k]?.getD 0=0
  . have t:=DB (p:=Hid (ds[len-1-k]?.getD 0=0)) i;rw[i];clear i I;gi_wp2;refine⟨KeepsFrom.refl _ _,⟨⟨⟨c0,c1⟩,c2⟩,f⟩,λj V y=>?_⟩;by_cases r:j=len-1-k
    . rw[r];exact t.out
    . exact d.out j O y
  . have hm:len-1-k<len:=O
    have Qc:(((ds[len-1-k]?.getD 0:Nat):Int) != 0)=true:=by rw[bne_iff_ne];omega
    have t:=DB (p:=Hid (ds[len-1-k]?.getD 0≠0)) i;clear i I;have HK:=DB (p:=Hid (ds[len-1-k]?.getD 0≠0/\∀j,len-k<=j->j<len->ds[j]?.getD 0=0)) ⟨t.out,d.out⟩;clear t d;generalize ds[len-1-k]?.getD 0=x at Qc ⊢;generalize ae:len-1-k=m at hm ⊢;have Qe:=DB (p:=Hid (len-1-k=m)) ae;clear ae;gi_wp2;refine⟨(BI _ _ _).from _,⟨?_,f.setCell (p:=⟨w.heap.size+1,0,none⟩) Z _⟩,rfl,HK.out⟩;rw[Qe.out];exact c1.set _
 case done=>
  rintro D W hD ⟨⟨⟨⟨c0,c1⟩,c2⟩,f⟩,o⟩ g;have d1:=c1.cell;have f1:=c1.frozen;have d:=DB (p:=Hid (∀j,len-len<=j->j<len->ds[j]?.getD 0=0)) o;clear o;gi_wp2;have v:(W.setCell ⟨w.heap.size+1,0,none⟩ (B none 0 0)).heap[D]?=some (E (some [])):=(BI W ⟨w.heap.size+1,0,none⟩ (B none 0 0)).same D _ g rfl;refine⟨Z,.inl ⟨_,_,rfl,BR v,?_⟩⟩;have A:=(c1.set (B none 0 0)).kept (BU _ D (E none)) (λe=>by cases e;rw[show(W.setCell ⟨w.heap.size+1,0,none⟩ (B none 0 0)).heap[w.heap.size+1]?=_ from c1.set (B none 0 0)]at v;cases v);have q:=A.cell;have S:J6 ds=[]:=TT ds λj r=>PH r (d.out j O (by rw[P.out];exact r));refine⟨B none 0 0,by simp[results,Tryz.results73,go_sem,q],_,rfl,⟨?_,?_⟩,Or.inl ⟨rfl,S⟩⟩
  . rw[S];exact Row.nil _ _
  . exact(f.setCell (p:=⟨w.heap.size+1,0,none⟩) Z _).trans (Bz (w:=w) (Aa _) _ D _ _ (by simp at hD;omega) v rfl rfl)
 case stop=>
  rintro D c k W hD hk ⟨⟨c1,f⟩,rfl,i,o⟩ g;have d1:=c1.cell;have d:=DB (p:=Hid (ds[len-1-k]?.getD 0≠0/\∀j,len-k<=j->j<len->ds[j]?.getD 0=0)) ⟨i,o⟩;clear o i;gi_wp2;refine⟨Z,.inl ⟨_,_,rfl,BR g,?_⟩⟩;have A:=c1.kept (BU _ D (E none)) (λe=>by cases e;rw[show W.heap[w.heap.size+1]?=_ from c1]at g;cases g);have q:=A.cell;have Q:Below w.heap.size w (W.putObj D (E none)):=f.trans (Bz (w:=w) (Aa _) _ D _ _ (by simp at hD;omega) g rfl rfl);have ak:=P.out;have e:J6 ds=ds.take (len-1-k+1):=by
   refine TS ds (len-1-k) O ?_ ?_
   . intro h0;apply d.out.1;rw[h0];rfl
   . intro j V y;exact PH y (d.out.2 j O O)
  have L:(ds.take (len-1-k+1)).length=len-1-k+1:=by rw[Al];omega
  refine⟨B a (len-1-k+1) cap,by simp[results,Tryz.results73,go_sem,q],_,rfl,⟨?_,Q⟩,Or.inr (by rw[e,L])⟩;rw[e];have hr:=Row.below h Q;obtain⟨_,_,_,_,ad⟩:=JH hr;obtain⟨b,off,s,hb,_⟩:=ad (len-1-k) O;have M:Es .u64 (W.putObj D (E none)) b:=by
   obtain⟨F,o2,T,M⟩:=hr.typ O;rw[s]at T;cases T;exact M
  refine⟨a,cap,by rw[L],O,ah,O,Or.inr ⟨b,off,s,M,λj r=>?_⟩⟩;rw[L]at r;obtain⟨b',an,U,_,af⟩:=ad j O;rw[s]at U;cases U;rw[af,A5 r]
theorem YU(v:H)(ds:List Nat)(w:C)(h:Row .u64 w v ds):
 Calls Tryz.prog 73 #[v] w λe b=>∃u,e=.returned u/\Row .u64 b u (J6 ds)/\Below w.heap.size w b:=by
 obtain⟨a,cap,rfl,f⟩:=id h;refine(Ms a _ cap ds w h).mono ?_;rintro e b ⟨u,rfl,⟨c,d⟩,_⟩;exact⟨u,rfl,c,d⟩
end
variable {F:Fence} {n:Nat} {P:Program}
theorem PK{g:Operand}{ps:Array Tmp}{assign body:Code}{Q:Exit->Act->C->Prop}{a:Act}{w:C}
(ax:F.round=none)(h1:1<=n){gf:Nat}{lb:Array H}(hg:a.eval g=.func (.func gf) #[] lb)(af:F.fn gf)(eg:∀args w,(callFunc gf args).run P w=.ok (.enter gf args) w)
{N:Nat}{args:Nat->Array H}{Rd:Nat->C->Prop}(ay:K7 F (n-1) P gf lb N args Rd)(aw:∀k,(args k).size=ps.size)
(I:Nat->C->Prop)(M:Code->Nat->C->Prop)(x:OwnFrom w.heap.size I)(R:∀c,OwnFrom w.heap.size (M c))(h0:I 0 w)(ah:∀k W,I k W->Rd k W)(a₁:Nat->Nat->Act)(o:Nat->Obj)
(ai:∀(l k:Nat) (W:C) (K:Act->C->Prop),K (a₁ k W.heap.size) (W.alloc (o k))->
  assign.wpIn (F.inRound l) (n-1-1) P (Exit.then K λ_ _ _=>False) { tmps:=(ps.zip (args k)).foldl (λt (p,v)=>t.setIfInBounds p v) a.tmps,defers:=[] } W)
(aj:∀(l k b:Nat) (W:C),I k W->k<N->w.heap.size<W.heap.size->w.heap.size+1<b->W.heap[b]?=some (o k)->body.wpIn (F.inRound l) (n-1-1) P (roundPost w.heap.size I M k W) (a₁ k b) W)
(am:∀(D:Nat) (W:C),w.heap.size<=D->I N W->W.heap[D]?=some (E (some []))->Q .normal { a with defers:={ target:=.collected D,args:=#[] }::a.defers } W)
(az:∀(D:Nat) (c:Code) (k:Nat) (W:C),w.heap.size<=D->k<N->M c k W->W.heap[D]?=some (E (some []))->c.wpIn F n P Q { a with defers:={ target:=.collected D,args:=#[] }::a.defers } W):
 (Code.rangeFunc g ps assign body).wpIn F n P Q a w:=by
 refine wpIn_rangeFunc λfn an=>?_;rw[ax];obtain⟨rc,m⟩:∃rc:LoopState->Option Code->Loop,rc=λst pe=>{ state:=st,pending:=pe,fn,tmps:=a.tmps,params:=ps,assign,body,defers:=w.heap.size }:=⟨_,rfl⟩;obtain⟨V,S⟩:=ex ((w.alloc (E (some []))).alloc (.loop (rc .ready none)));have vL:V.heap[w.heap.size+1]?=some (.loop (rc .ready none)):=by
  rw[<-S];have:=BE (w.alloc (E (some []))) (.loop (rc .ready none));rwa[Ax]at this
 have vD:V.heap[w.heap.size]?=some (E (some [])):=by
  rw[<-S];exact(Bh _ _ _ Z).trans (BE w _)
 have vI:I 0 V:=by rw[<-S];exact x.alloc _ (x.alloc _ h0)
 refine⟨w.heap.size+1,[{ target:=.collected w.heap.size,args:=#[] }],V,{ target:=.fn (.func gf) lb,args:=#[.func (.yield (w.heap.size+1)) #[] #[]] },V,gf,
  #[.func (.yield (w.heap.size+1)) #[] #[]]++lb,V,?_,?_,?_,?_,λ_=>h1,?_⟩
 . rw[<-S,m];exact run_enterLoop_outer _ _ _ _ _
 . simp only[resolve,hg];simp[go_sem]
 . intro f' ad;simp[Target.leads]at ad;subst ad;exact af
 . simp[invoke,go_sem,eg]
 refine(ay (w.heap.size+1)
  (λk W=>I k W/\W.heap[w.heap.size+1]?=some (.loop (rc .ready none))/\W.heap[w.heap.size]?=some (E (some [])))
  (λk W=>∃c,M c k W/\W.heap[w.heap.size+1]?=some (.loop (rc .done (some c)))/\W.heap[w.heap.size]?=some (E (some [])))
  V (λk W h=>ah k W h.1) ?_ ⟨vI,vL,vD⟩).mono ?_
 . rintro k W ⟨A,hl,L⟩ aq;have U:w.heap.size+1<W.heap.size:=(Ab.1 hl).1;have hy:=run_yield (P:=P) (args:=args k) hl (by rw[m];exact aw k);rw[m]at hy;obtain⟨u,y⟩:=ex (W.alloc (o k));have T:u.heap[w.heap.size+1]?=some (.loop (rc .ready none)):=by rw[<-y];exact(Bh _ _ _ U).trans hl
   have Qi:u.heap[w.heap.size]?=some (E (some [])):=by rw[<-y];exact(Bh _ _ _ O).trans L
   have Qg:I k u:=by rw[<-y];exact x.alloc _ A
   have Qf:u.heap[W.heap.size]?=some (o k):=by rw[<-y];exact BE W _
   refine⟨fn,_,assign,body,hy,roundIn_of_wpIn an (ai _ k W _ ?_)⟩;rw[y];refine⟨_,run_beginRound T (by rw[m]),?_⟩;obtain⟨bx,ak⟩:=ex (W.heap.size);rw[ak]at Qf U ⊢;have Qc:w.heap.size+1<u.heap.size:=(Ab.1 T).1;obtain⟨q,z⟩:=ex (u.putObj (w.heap.size+1) (.loop { rc .ready none with state:=.busy }));rw[z];have Qh:q.heap[w.heap.size+1]?=some (.loop { rc .ready none with state:=.busy }):=by rw[<-z];exact Bb Qc
   have Ql:q.heap[bx]?=some (o k):=by rw[<-z];exact(BK O).trans Qf
   have X:q.heap[w.heap.size]?=some (E (some [])):=by rw[<-z];exact(BK O).trans Qi
   have Qj:I k q:=by rw[<-z];exact x.putObj _ Qg O T rfl
   have Qk:w.heap.size<q.heap.size:=(Ab.1 X).1;have fin:∀(i:Option Code) (f:C),KeepsFrom w.heap.size q f->
    (Instr.endRound (w.heap.size+1) i).run P f=.ok (.bool i.isNone) (f.putObj (w.heap.size+1) (.loop (rc (if i.isNone then .ready else .done) i)))/\
    f.heap[w.heap.size+1]?=some (.loop { rc .ready none with state:=.busy })/\
    (f.putObj (w.heap.size+1) (.loop (rc (if i.isNone then .ready else .done) i))).heap[w.heap.size+1]?=some (.loop (rc (if i.isNone then .ready else .done) i))/\
    (f.putObj (w.heap.size+1) (.loop (rc (if i.isNone then .ready else .done) i))).heap[w.heap.size]?=some (E (some [])):=λi f ae=>by
    have d:=ae.same _ _ O Qh rfl;have j:=run_endRound (P:=P) i d;rw[m]at j ⊢;exact⟨j,by rw[m]at d;exact d,Bb (Ab.1 d).1,(BK O).trans (ae.same _ _ (Aa _) X rfl)⟩
   refine wpIn_mono (aj _ k bx q Qj aq Qk U Ql) λe a3 f hp=>?_;cases e with
   |normal=>
    obtain⟨j,d,s,r⟩:=fin none f hp.1;exact⟨_,_,j,.inl ⟨rfl,x.putObj _ hp.2 O d rfl,s,r⟩⟩
   |ret=>
    obtain⟨j,d,s,r⟩:=fin (some .ret) f hp.1;exact⟨_,_,j,.inr ⟨rfl,.ret,(R _).putObj _ hp.2 O d rfl,s,r⟩⟩
   |exit id=>
    obtain⟨j,d,s,r⟩:=fin (some (.exit id)) f hp.1;exact⟨_,_,j,.inr ⟨rfl,.exit id,(R _).putObj _ hp.2 O d rfl,s,r⟩⟩
   |goto t=>
    obtain⟨j,d,s,r⟩:=fin (some (.goto t)) f hp.1;exact⟨_,_,j,.inr ⟨rfl,.goto t,(R _).putObj _ hp.2 O d rfl,s,r⟩⟩
   |panic ch=>exact hp.elim
   |outgrown=>exact hp.elim
 . rintro e q ⟨⟨v,rfl⟩,(⟨A,hl,L⟩|⟨k,ap,c,A,hl,L⟩)⟩
   . exact⟨none,_,by have:=run_endLoop (P:=P) hl (by rw[m];simp);rw[m]at this;exact this,am _ _ (Aa _) (x.putObj _ A O hl rfl) ((BK O).trans L)⟩
   . exact⟨some c,_,by have:=run_endLoop (P:=P) hl (by rw[m];simp);rw[m]at this;exact this,az _ c k _ (Aa _) ap ((R c).putObj _ A O hl rfl) ((BK O).trans L)⟩

