import Derived.RangeFuncNested
import Derived.RangeFuncBound
import Derived.Shelf.RegionOpen
import Derived.WalkSpells
import Derived.WalkLawsBesides
import Derived.OwnWalkIn
import Derived.LoopNIn
import Derived.LoopIn
import Derived.Test.YthnpdhlepglmlaaGreatDoorV02
import Derived.Test.YthnpdhlepglmlaaGreatDoorProg
set_option linter.all false
open Go.Value renaming slice->B
open Go renaming World->C,Value->H
open Go.Obj renaming deferred->E,cells->G
set_option maxRecDepth 99999
set_option maxHeartbeats 0
namespace Go.Proofs.YthnpdhlepglmlaaGreatDoor
open Proofs.Tryz
open Go.RowKit Go.Shelf
section
def v0{p:Prop}(h:p:=by kernel_rfl):p:=h
abbrev om:=Option Addr
def DF:=@ownFrom_pure
def DB:=@bne_iff_ne
def DA:=@Hid.out
def B0:=@belowK_b
def Br:=@ownFrom_below
def Bn:=@callsIn_of_wp
def Bh:=@Own.from
def Bf:=@Below.heap_alloc
def Be:=@enters_of
def Bb:=@World.putObj_heap_same
def BR:=@grownBy_putObj'
def BQ:=@run_takeDeferred
def BO:=@callsIn_of_wp_marks
def BN:=@OwnFrom.and
theorem BM:type_of% @World.putObj_heap_other:=@World.putObj_heap_other
def BL:=@KeepsOthers.setCell
def BJ:=@callsIn_wide
def BH:=@Boxed.new
def BD:=@World.alloc_heap_new
theorem BC:type_of% @Below.heap_setCell:=@Below.heap_setCell
def BB:=@Below.refl
def BA:=@bodyPost_ret
theorem Ax:type_of% @World.size_alloc:=@World.size_alloc
abbrev IM(k:IntKind):TypeId:=match k with|.i64=>3|_=>223
def Gj(k:IntKind)(W:C)(b:Nat):Prop:=∃cs m,W.heap[b]?=some (G cs (IM k) m)
variable{k:IntKind}{ds:m0}{b:Nat}{W W':C}
theorem Gj.lt(h:Gj k W b):b<W.heap.size:=by obtain⟨cs,m,h⟩:=h;grind
theorem Gj.of(h:Gj k W b)(e:W'.heap[b]?=W.heap[b]?):Gj k W' b:=by obtain⟨cs,m,h⟩:=h;exact⟨cs,m,e.trans h⟩
def Gj.below(h:Gj k W b)(hb:Below W.heap.size W W'):Gj k W' b:=h.of (hb.block b h.lt)
theorem Gj.set(h:Gj k W b)(p:Addr)(u:H):Gj k (W.setCell p u) b:=by
 by_cases e:b=p.block
 . obtain⟨cs,m,h⟩:=h;obtain⟨a,hk⟩:=Ab.1 h;subst e;refine⟨if p.spot.isSome=true then cs else cs.setIfInBounds p.off u,m,?_⟩;show(W.heap.modify p.block _)[p.block]?=_;grind
 . exact h.of (BC W p u b e)
def Row(k:IntKind)(W:C)(v:H)(ds:m0):Prop:=
 ∃a cap,v=B a ds.length cap/\ds.length<=cap/\cap<=9223372036854775807/\ds.length<=1099511627776/\
  (ds=[]\/∃b off,a=some ⟨b,off,none⟩/\Gj k W b/\∀j,j<ds.length->W.cell? ⟨b,off+j,none⟩=some (.int k (ds[j]?.getD 0:Nat)))
def Row.below{k:IntKind}{W W':C}{v:H}{ds:m0}(h:Row k W v ds)(hb:Below W.heap.size W W'):Row k W' v ds:=by
 obtain⟨a,cap,e,g,i,l,c⟩:=h;refine⟨a,cap,e,g,i,l,?_⟩;rcases c with c|⟨b,off,f,d,m⟩
 . exact An c
 . exact Ap ⟨b,off,f,d.below hb,λj n=>(hb.cell (p:=⟨b,off+j,none⟩) d.lt).trans (m j n)⟩
theorem Row.typ{a:om}{l cap:Nat}(h:Row k W (B a l cap) ds)(d:0<l):∃b off,a=some ⟨b,off,none⟩/\Gj k W b:=by
 obtain⟨a',c,e,_,_,_,f⟩:=h;grind
theorem Row.nil(k:IntKind)(W:C):Row k W (B none 0 0) []:=⟨none,0,J,Aa _,O,DI,An J⟩
theorem Row.open{v:H}(h:Row k W v ds):∃a cap,v=B a ds.length cap/\ds.length<=cap/\cap<=9223372036854775807/\ds.length<=1099511627776/\
 Hid (∀j,j<ds.length->∃b off,a=some ⟨b,off,none⟩/\b<W.heap.size/\W.cell? ⟨b,off+j,none⟩=some (.int k (ds[j]?.getD 0:Nat))):=by
 obtain⟨a,cap,e,f,g,i,c⟩:=h;refine⟨a,cap,e,f,g,i,λj m=>?_⟩;rcases c with c|⟨b,off,d,hb,l⟩
 . grind
 . exact⟨b,off,d,hb.lt,l j m⟩
def Tryz.infoU64:(Tryz.prog.info? 223).map (λi=>(i.zero,i.size,i.bytes))=some (some (.int .u64 0),1,8):=by kernel_rfl
def cellsOf(k:IntKind)(ds:m0):List H:=ds.map λd=>Value.int k (d:Nat)
def gC(k:IntKind)(ds:m0)(d:Nat):cellsOf k (ds++[d])=cellsOf k ds++[.int k (d:Nat)]:=by simp[cellsOf]
theorem gD(k:IntKind)(ds:m0):(cellsOf k ds).length=ds.length:=by simp[cellsOf]
def UI:H->Nat|B _ k _=>k|_=>0
def RN(W:C)(v:H)(n:Nat):Prop:=Row .i64 W v (Jh 10000 n)
def Mb(F:Fence)(n:Nat)(P:Program)(g:Nat)(lb:Array H)(N:Nat)(args:Nat->Array H)(Rd:Nat->C->Prop):Prop:=
 ∀(l:Nat) (J b:Nat->C->Prop) (W:C),(∀k a,J k a->Rd k a)->
  (∀k a,J k a->k<N->YieldAt F (n-1) P l (args k) a λe W'=>(e=.returned (.bool true)/\J (k+1) W')\/(e=.returned (.bool false)/\b k W'))->
  J 0 W->CallsIn F n P g (#[.func (.yield l) #[] #[]]++lb) W λe W'=>(∃v,e=.returned v)/\(J N W'\/∃k,k<N/\b k W')
def roundPost(B:Nat)(I:Nat->C->Prop)(a:Code->Nat->C->Prop)(k:Nat)(W:C):Exit->Act->C->Prop
 |.normal,_,W'=>KeepsFrom B W W'/\I (k+1) W'
 |.ret,_,W'=>KeepsFrom B W W'/\a .ret k W'
 |.exit id,_,W'=>KeepsFrom B W W'/\a (.exit id) k W'
 |.goto t,_,W'=>KeepsFrom B W W'/\a (.goto t) k W'
 |.panic _,_,_=>False
 |.outgrown,_,_=>False
variable {F:Fence} {n:Nat} {P:Program}
theorem X7{g:Operand}{ps:Array Tmp}{assign body:Code}{Q:Exit->Act->C->Prop}{a:Act}{w:C}
(az:F.round=none)(h1:1<=n){gf:Nat}{lb:Array H}(hg:a.eval g=.func (.func gf) #[] lb)(ae:F.fn gf)(eg:∀args w,(callFunc gf args).run P w=.ok (.enter gf args) w)
{N:Nat}{args:Nat->Array H}{Rd:Nat->C->Prop}(bg:Mb F (n-1) P gf lb N args Rd)(ay:∀k,(args k).size=ps.size)
(I:Nat->C->Prop)(s:Code->Nat->C->Prop)(r:OwnFrom w.heap.size I)(u:∀c,OwnFrom w.heap.size (s c))(h0:I 0 w)(ah:∀k W,I k W->Rd k W)(A:Nat->Act)
(ai:∀(l k:Nat) (W:C) (K:Act->C->Prop),K (A k) W->
  assign.wpIn (F.inRound l) (n-1-1) P (Exit.then K λ_ _ _=>False) { tmps:=(ps.zip (args k)).foldl (λt (p,v)=>t.setIfInBounds p v) a.tmps,defers:=[] } W)
(aj:∀(l k:Nat) (W:C),I k W->k<N->w.heap.size<W.heap.size->body.wpIn (F.inRound l) (n-1-1) P (roundPost w.heap.size I s k W) (A k) W)
(am:∀(D:Nat) (W:C),w.heap.size<=D->I N W->W.heap[D]?=some (E (some []))->Q .normal { a with defers:={ target:=.collected D,args:=#[] }::a.defers } W)
(bi:∀(D:Nat) (c:Code) (k:Nat) (W:C),w.heap.size<=D->k<N->s c k W->W.heap[D]?=some (E (some []))->c.wpIn F n P Q { a with defers:={ target:=.collected D,args:=#[] }::a.defers } W):
 (Code.rangeFunc g ps assign body).wpIn F n P Q a w:=by
 refine wpIn_rangeFunc λfn an=>?_;rw[az];obtain⟨rc,j⟩:∃rc:LoopState->Option Code->Loop,rc=λst pe=>{ state:=st,pending:=pe,fn,tmps:=a.tmps,params:=ps,assign,body,defers:=w.heap.size }:=⟨_,J⟩;obtain⟨V,y⟩:=ex ((w.alloc (E (some []))).alloc (.loop (rc .ready none)));have vL:V.heap[w.heap.size+1]?=some (.loop (rc .ready none)):=by
  rw[<-y];have:=BD (w.alloc (E (some []))) (.loop (rc .ready none));rwa[Ax]at this
 have vD:V.heap[w.heap.size]?=some (E (some [])):=by
  rw[<-y];exact(Bf _ _ _ DI).trans (BD w _)
 have vI:I 0 V:=by rw[<-y];exact r.alloc _ (r.alloc _ h0)
 refine⟨w.heap.size+1,[{ target:=.collected w.heap.size,args:=#[] }],V,{ target:=.fn (.func gf) lb,args:=#[.func (.yield (w.heap.size+1)) #[] #[]] },V,gf,
  #[.func (.yield (w.heap.size+1)) #[] #[]]++lb,V,?_,?_,?_,?_,λ_=>h1,?_⟩
 . grind[run_enterLoop_outer]
 . simp only[resolve,hg];simp[go_sem]
 . intro f' L;simp[Target.leads]at L;subst L;exact ae
 . simp[invoke,go_sem,eg]
 refine(bg (w.heap.size+1)
  (λk W=>I k W/\W.heap[w.heap.size+1]?=some (.loop (rc .ready none))/\W.heap[w.heap.size]?=some (E (some [])))
  (λk W=>∃c,s c k W/\W.heap[w.heap.size+1]?=some (.loop (rc .done (some c)))/\W.heap[w.heap.size]?=some (E (some [])))
  V (λk W h=>ah k W h.1) ?_ ⟨vI,vL,vD⟩).mono ?_
 . rintro k W ⟨hi,hl,hk⟩ aq;have X:w.heap.size+1<W.heap.size:=(Ab.1 hl).1;have R:=run_yield (P:=P) (args:=args k) hl (by rw[j];exact ay k);rw[j]at R;refine⟨fn,_,assign,body,R,roundIn_of_wpIn an (ai _ k W _ ⟨_,run_beginRound hl (by rw[j]),?_⟩)⟩;obtain⟨m,x⟩:=ex (W.putObj (w.heap.size+1) (.loop { rc .ready none with state:=.busy }));rw[x];have S:m.heap[w.heap.size+1]?=some (.loop { rc .ready none with state:=.busy }):=by rw[<-x];exact Bb X
   have z:m.heap[w.heap.size]?=some (E (some [])):=by rw[<-x];exact(BM O).trans hk
   have T:I k m:=by rw[<-x];exact r.putObj _ hi O hl J
   have U:w.heap.size<m.heap.size:=(Ab.1 z).1;have fin:∀(d:Option Code) (b:C),KeepsFrom w.heap.size m b->
    (Instr.endRound (w.heap.size+1) d).run P b=.ok (.bool d.isNone) (b.putObj (w.heap.size+1) (.loop (rc (if d.isNone then .ready else .done) d)))/\
    b.heap[w.heap.size+1]?=some (.loop { rc .ready none with state:=.busy })/\
    (b.putObj (w.heap.size+1) (.loop (rc (if d.isNone then .ready else .done) d))).heap[w.heap.size+1]?=some (.loop (rc (if d.isNone then .ready else .done) d))/\
    (b.putObj (w.heap.size+1) (.loop (rc (if d.isNone then .ready else .done) d))).heap[w.heap.size]?=some (E (some [])):=λd b M=>by
    have f:=M.same _ _ O S J;have i:=run_endRound (P:=P) d f;rw[j]at i ⊢;exact⟨i,DH,Bb (Ab.1 f).1,(BM O).trans (M.same _ _ (Aa _) z J)⟩
   refine wpIn_mono (aj _ k m T aq U) λe a3 b hp=>?_;cases e with
   |normal=>
    obtain⟨i,f,q,o⟩:=fin none b hp.1;exact⟨_,_,i,.inl ⟨J,r.putObj _ hp.2 O f J,q,o⟩⟩
   |ret=>
    obtain⟨i,f,q,o⟩:=fin (some .ret) b hp.1;exact⟨_,_,i,.inr ⟨J,.ret,(u _).putObj _ hp.2 O f J,q,o⟩⟩
   |exit id=>
    obtain⟨i,f,q,o⟩:=fin (some (.exit id)) b hp.1;exact⟨_,_,i,.inr ⟨J,.exit id,(u _).putObj _ hp.2 O f J,q,o⟩⟩
   |goto t=>
    obtain⟨i,f,q,o⟩:=fin (some (.goto t)) b hp.1;exact⟨_,_,i,.inr ⟨J,.goto t,(u _).putObj _ hp.2 O f J,q,o⟩⟩
   |panic ch=>exact hp.elim
   |outgrown=>exact hp.elim
 . rintro e m ⟨⟨v,rfl⟩,(⟨hi,hl,hk⟩|⟨k,ap,c,hi,hl,hk⟩)⟩
   . exact⟨none,_,by have:=run_endLoop (P:=P) hl (by rw[j];simp);rw[j]at this;exact this,am _ _ (Aa _) (r.putObj _ hi O hl J) ((BM O).trans hk)⟩
   . exact⟨some c,_,by have:=run_endLoop (P:=P) hl (by rw[j];simp);rw[j]at this;exact this,bi _ c k _ (Aa _) ap ((u c).putObj _ hi O hl J) ((BM O).trans hk)⟩
end
section
attribute [local go_sem] Oper.semAt_some
def UJ(c:Nat)(a:om)(len cap:Nat)(zs:Nat->Nat)(k:Nat)(W:C):Prop:=
 W.cell? ⟨c,0,none⟩=some (B a len cap)/\(k<len->∃b off,a=some ⟨b,off,none⟩/\W.cell? ⟨b,off+(len-1-k),none⟩=some (.int .u64 (zs (len-1-k):Nat)))
def Iu(len:Nat)(zs:Nat->Nat)(k:Nat):Array H:=#[.int .i64 ((len:Int)-1-k),.int .u64 (zs (len-1-k):Nat)]
variable{ds:m0}
def Mc(F:Fence)(n:Nat)(x:F.fn 232)(y:F.round=none)(hn:1<=n)(d:Nat)(a:om)(len cap:Nat)(zs:Nat->Nat)(M:len<=1099511627776):
 Mb F n Tryz.prog 232 #[.pointer (some ⟨d,0,none⟩)] len (Iu len zs) (UJ d a len cap zs):=λl J z W j v g=>by
 have K:=(j 0 W g).1;refine Bn func232 rfl x ?_ y;simp only[ntmps232,Aw,Al,AX,Nat.reduceAdd,Nat.reduceSub,Az,AA,AU,AJ,As,AK];gi_wp2;gi_loopw [3] (λi wr=>∃k:Nat,k<=len/\i=.int .i64 ((len:Int)-1-k)/\J k wr) λi _=>(intOf i+1).toNat
 case atStart=>exact⟨0,Ay _,DI,g⟩
 case round=>
  obtain⟨k,hk,rfl,hJ⟩:=hrel;obtain⟨I,w⟩:=j k wr hJ;by_cases c:k<len
  . obtain⟨b,off,rfl,L⟩:=w c;obtain⟨fn,tmps,assign,body,q,u⟩:=v k wr hJ c;have f:((len:Int)-1-k)=((len-1-k:Nat):Int):=O
    have D:len-1-k<len:=O
    dsimp only[Iu]at q;rw[f]at q ⊢;generalize o:len-1-k=m at *;have r:=DA (p:=Hid (len-1-k=m)) o;clear o f;gi_wp2;refine u.mono ?_;rintro e A (⟨rfl,s⟩|⟨rfl,t⟩)
    . gi_wp2;go_roundw
      case rel=>exact⟨k+1,O,by(congr 1;have:=r.out;omega),s⟩
      case measure=>simp[intOf]
    . gi_wp2;refine BA (results_none rfl _ _ _) rfl ?_;exact⟨⟨_,rfl⟩,.inr ⟨k,c,t⟩⟩
  . obtain rfl:k=len:=O
    gi_wp2;go_end0;exact⟨⟨_,rfl⟩,.inl hJ⟩
def Md(F:Fence)(n:Nat)(b:F.fn 174)(c:F.round=none)(a:om)(len cap:Nat)(w:C):
 CallsIn F n Tryz.prog 174 #[B a len cap] w λe w'=>e=.returned (.func (.func 232) #[] #[.pointer (some ⟨w.heap.size,0,none⟩)])/\w'=w.alloc (G #[B a len cap] 46):=by
 refine Bn func174 J b ?_ c;simp only[ntmps174,Aw,Al,AX,Nat.reduceAdd,Nat.reduceSub,Az,AA,AU,AJ,As,AK];gi_wp2;go_ret;exact⟨J,J⟩
def JM{k:IntKind}{W:C}{a:om}{l cap:Nat}(h:Row k W (B a l cap) ds):l=ds.length/\l<=cap/\cap<=9223372036854775807/\l<=1099511627776/\
 ∀j,j<l->∃b off,a=some ⟨b,off,none⟩/\b<W.heap.size/\W.cell? ⟨b,off+j,none⟩=some (.int k (ds[j]?.getD 0:Nat)):=by
 obtain⟨a',c',e,c,d,f,g⟩:=Row.open h;cases e;exact⟨J,c,d,f,g⟩
theorem UK{j:Nat}(a:j<ds.length)(h:ds[j]?.getD 0=0):ds[j]?=some 0:=by
 grind
def UL(w:C)(a:om)(len cap:Nat)(ds:m0)(k:Nat)(W:C):Prop:=
 (((Boxed W w.heap.size 46 (B a len cap)/\Boxed W (w.heap.size+1) 46 (B none 0 0))/\Boxed W (w.heap.size+1+1) 46 (B a len cap))/\Below w.heap.size w W)/\∀j,len-k<=j->j<len->ds[j]?.getD 0=0
def UM(w:C)(a:om)(len cap:Nat)(ds:m0)(c:Code)(k:Nat)(W:C):Prop:=
 (Boxed W (w.heap.size+1) 46 (B a (len-1-k+1) cap)/\Below w.heap.size w W)/\(c=.ret/\ds[len-1-k]?.getD 0≠0/\∀j,len-k<=j->j<len->ds[j]?.getD 0=0)
def gE(w:C)(a:om)(len cap:Nat)(ds:m0):OwnFrom (w.heap.size+1+1+1) (UL w a len cap ds):=
 BN (BN (BN (BN (Bh (boxed_own _ _ λ_=>B a len cap) _) (Bh (boxed_own _ _ λ_=>B none 0 0) _)) (Bh (boxed_own _ _ λ_=>B a len cap) _)) (Br (Aa _) O)) (DF _ _)
def gF(w:C)(a:om)(len cap:Nat)(ds:m0)(c:Code):OwnFrom (w.heap.size+1+1+1) (UM w a len cap ds c):=
 BN (BN (Bh (boxed_own _ _ λk=>B a (len-1-k+1) cap) _) (Br (Aa _) O)) (DF _ _)
theorem OH(a:om)(len cap:Nat)(ds:m0)(w:C)(h:Row .u64 w (B a len cap) ds):
 Calls Tryz.prog 176 #[B a len cap] w λe w'=>∃u,e=.returned u/\(Row .u64 w' u (J4 ds)/\Below w.heap.size w w')/\(u=B none 0 0/\J4 ds=[]\/u=B a (J4 ds).length cap):=by
 obtain⟨hl,am,ah,ai,y⟩:=JM h;have M:=DA (p:=Hid (len=ds.length)) hl;have HC:=DA (p:=Hid (∀j,j<len->∃b off,a=some ⟨b,off,none⟩/\b<w.heap.size/\w.cell? ⟨b,off+j,none⟩=some (.int .u64 (ds[j]?.getD 0:Nat)))) y;clear y hl;refine(BJ (n:=3)).1 ?_;refine BO func176 J trivial ?_ J;simp only[ntmps176,Aw,Al,AX,Nat.reduceAdd,Nat.reduceSub,Az,AA,AU,AJ,As,AK];gi_wp2_with(refine⟨trivial,?_⟩;gi_at_call 174;refine(Md Fence.wide _ trivial J _ _ _ _).mono ?_;rintro e w' ⟨rfl,rfl⟩)
 have b0:=((BH w 46 (B a len cap)).alloc (G #[B none 0 0] 46)).alloc (G #[B a len cap] 46);have Q:=(BH (w.alloc (G #[B a len cap] 46)) 46 (B none 0 0)).alloc (G #[B a len cap] 46);have A:=BH ((w.alloc (G #[B a len cap] 46)).alloc (G #[B none 0 0] 46)) 46 (B a len cap);simp only[Ax]at Q A;have Qd:Below w.heap.size w (((w.alloc (G #[B a len cap] 46)).alloc (G #[B none 0 0] 46)).alloc (G #[B a len cap] 46)):=(((BB _ w).alloc (Aa _) _).alloc DI _).alloc si _;have V:(((w.alloc (G #[B a len cap] 46)).alloc (G #[B none 0 0] 46)).alloc (G #[B a len cap] 46)).heap.size=w.heap.size+1+1+1:=DI
 refine X7 J O (gf:=232) (lb:=#[.pointer (some ⟨w.heap.size+1+1,0,none⟩)]) J trivial (Be func232 v0 J)
  (Mc Fence.wide _ trivial J O (w.heap.size+1+1) a len cap (λj=>ds[j]?.getD 0) ai) (λ_=>rfl)
  (UL w a len cap ds) (UM w a len cap ds) (by rw[V];exact gE w a len cap ds) (λc=>by rw[V];exact gF w a len cap ds c)
  ⟨⟨⟨⟨b0,Q⟩,A⟩,Qd⟩,λj U v=>by omega⟩ ?rd
  (λk=>{ tmps:=#[B a len cap,.pointer (some ⟨w.heap.size,0,none⟩),.pointer (some ⟨w.heap.size+1,0,none⟩),.int .i64 ((len:Int)-1-k),.int .u64 (ds[len-1-k]?.getD 0:Nat),B a len cap,.func (.func 232) #[] #[.pointer (some ⟨w.heap.size+1+1,0,none⟩)],.int .i64 ((len:Int)-1-k),.int .u64 (ds[len-1-k]?.getD 0:Nat),undef,undef,undef,undef,undef,undef],defers:=[] }) ?assign ?body ?done ?stop
 case rd=>
  rintro k W ⟨⟨⟨_,c2⟩,f⟩,_⟩;refine⟨c2.cell,λhk=>?_⟩;obtain⟨b,off,s,hb,y⟩:=HC.out (len-1-k) O;exact⟨b,off,s,(f.cell (p:=⟨b,off+(len-1-k),none⟩) hb).trans y⟩
 case assign=>
  intro l k W K o;unfold Iu;gi_wp2;exact o
 case body=>
  rintro l k W ⟨⟨⟨⟨c0,c1⟩,c2⟩,f⟩,i⟩ hk ap;have d0:=c0.cell;have d1:=c1.cell;have f1:=c1.frozen;have d:=DA (p:=Hid (∀j,len-k<=j->j<len->ds[j]?.getD 0=0)) i;clear i;have F:((len:Int)-1-k)=((len-1-k:Nat):Int):=O
  rw[F];by_cases g:ds[len-1-k]?.getD 0=0
  . have t:=DA (p:=Hid (ds[len-1-k]?.getD 0=0)) g;rw[g];clear g F;gi_wp2;refine⟨KeepsFrom.refl _ _,⟨⟨⟨c0,c1⟩,c2⟩,f⟩,λj U v=>?_⟩;by_cases r:j=len-1-k
    . rw[r];exact t.out
    . exact d.out j O v
  . have hm:len-1-k<len:=O
    have Qc:(((ds[len-1-k]?.getD 0:Nat):Int) != 0)=true:=by rw[DB];omega
    have t:=DA (p:=Hid (ds[len-1-k]?.getD 0≠0)) g;clear g F;have HK:=DA (p:=Hid (ds[len-1-k]?.getD 0≠0/\∀j,len-k<=j->j<len->ds[j]?.getD 0=0)) ⟨t.out,d.out⟩;clear t d;generalize ds[len-1-k]?.getD 0=x at Qc ⊢;generalize ae:len-1-k=m at hm ⊢;have Qe:=DA (p:=Hid (len-1-k=m)) ae;clear ae;gi_wp2;refine⟨(BL _ _ _).from _,⟨?_,f.setCell (p:=⟨w.heap.size+1,0,none⟩) DI _⟩,J,HK.out⟩;rw[Qe.out];exact c1.set _
 case done=>
  rintro D W hD ⟨⟨⟨⟨c0,c1⟩,c2⟩,f⟩,i⟩ o;have d1:=c1.cell;have f1:=c1.frozen;have d:=DA (p:=Hid (∀j,len-len<=j->j<len->ds[j]?.getD 0=0)) i;clear i;gi_wp2;have P:=(BL W ⟨w.heap.size+1,0,none⟩ (B none 0 0)).same D _ o J;refine⟨DI,.inl ⟨_,_,J,BQ P,?_⟩⟩;have z:=(c1.set (B none 0 0)).kept (BR _ D (E none)) (λe=>by grind);have q:=z.cell;have R:=fF ds λj r=>UK r (d.out j O (by rw[M.out];exact r));refine⟨B none 0 0,by simp[results,results176,go_sem,q],_,J,⟨?_,?_⟩,An ⟨J,R⟩⟩
  . rw[R];exact Row.nil _ _
  . exact(f.setCell (p:=⟨w.heap.size+1,0,none⟩) DI _).trans (B0 (w:=w) (Aa _) _ D _ _ (by simp at hD;omega) P J J)
 case stop=>
  rintro D c k W hD hk ⟨⟨c1,f⟩,rfl,g,i⟩ o;have d1:=c1.cell;have d:=DA (p:=Hid (ds[len-1-k]?.getD 0≠0/\∀j,len-k<=j->j<len->ds[j]?.getD 0=0)) ⟨g,i⟩;clear i g;gi_wp2;refine⟨DI,.inl ⟨_,_,J,BQ o,?_⟩⟩;have z:=c1.kept (BR _ D (E none)) (λe=>by grind);have q:=z.cell;have N:Below w.heap.size w (W.putObj D (E none)):=f.trans (B0 (w:=w) (Aa _) _ D _ _ (by simp at hD;omega) o J J);have an:=M.out;have e:J4 ds=ds.take (len-1-k+1):=by
   refine fE ds (len-1-k) O ?_ ?_
   . intro h0;apply d.out.1;rw[h0];rfl
   . intro j U v;exact UK v (d.out.2 j O O)
  have I:(ds.take (len-1-k+1)).length=len-1-k+1:=by rw[AG];omega
  refine⟨B a (len-1-k+1) cap,by simp[results,results176,go_sem,q],_,J,⟨?_,N⟩,Ap (by rw[e,I])⟩;rw[e];have hr:=Row.below h N;obtain⟨_,_,_,_,X⟩:=JM hr;obtain⟨b,off,s,hb,_⟩:=X (len-1-k) O;have L:Gj .u64 (W.putObj D (E none)) b:=by
   obtain⟨A,o2,S,L⟩:=hr.typ O;rw[s]at S;cases S;exact L
  refine⟨a,cap,by rw[I],O,ah,O,Ap ⟨b,off,s,L,λj r=>?_⟩⟩;rw[I]at r;obtain⟨b',aq,T,_,aj⟩:=X j O;rw[s]at T;cases T;grind
theorem XE(v:H)(ds:m0)(w:C)(h:Row .u64 w v ds):
 Calls Tryz.prog 176 #[v] w λe w'=>∃u,e=.returned u/\Row .u64 w' u (J4 ds)/\Below w.heap.size w w':=by
 obtain⟨a,cap,rfl,b⟩:=id h;refine(OH a _ cap ds w h).mono ?_;rintro e w' ⟨u,rfl,⟨c,d⟩,_⟩;grind
def gG(F:Fence)(n:Nat)(x:F.fn 305)(y:F.round=none)(hn:1<=n)(d:Nat)(a:om)(len cap:Nat)(zs:Nat->Nat)(M:len<=4398046511104):
 Mb F n Tryz.prog 305 #[.pointer (some ⟨d,0,none⟩)] len (Iu len zs) (UJ d a len cap zs):=λl J z W j v g=>by
 have K:=(j 0 W g).1;refine Bn func305 rfl x ?_ y;simp only[ntmps305,Aw,Al,AX,Nat.reduceAdd,Nat.reduceSub,Az,AA,AU,AJ,As,AK];gi_wp2;gi_loopw [3] (λi wr=>∃k:Nat,k<=len/\i=.int .i64 ((len:Int)-1-k)/\J k wr) λi _=>(intOf i+1).toNat
 case atStart=>exact⟨0,Ay _,DI,g⟩
 case round=>
  obtain⟨k,hk,rfl,hJ⟩:=hrel;obtain⟨I,w⟩:=j k wr hJ;by_cases c:k<len
  . obtain⟨b,off,rfl,L⟩:=w c;obtain⟨fn,tmps,assign,body,q,u⟩:=v k wr hJ c;have f:((len:Int)-1-k)=((len-1-k:Nat):Int):=O
    have D:len-1-k<len:=O
    dsimp only[Iu]at q;rw[f]at q ⊢;generalize o:len-1-k=m at *;have r:=DA (p:=Hid (len-1-k=m)) o;clear o f;gi_wp2;refine u.mono ?_;rintro e A (⟨rfl,s⟩|⟨rfl,t⟩)
    . gi_wp2;go_roundw
      case rel=>exact⟨k+1,O,by(congr 1;have:=r.out;omega),s⟩
      case measure=>simp[intOf]
    . gi_wp2;refine BA (results_none rfl _ _ _) rfl ?_;exact⟨⟨_,rfl⟩,.inr ⟨k,c,t⟩⟩
  . obtain rfl:k=len:=O
    gi_wp2;go_end0;exact⟨⟨_,rfl⟩,.inl hJ⟩
def gH(F:Fence)(n:Nat)(b:F.fn 292)(c:F.round=none)(a:om)(len cap:Nat)(w:C):
 CallsIn F n Tryz.prog 292 #[B a len cap] w λe w'=>e=.returned (.func (.func 305) #[] #[.pointer (some ⟨w.heap.size,0,none⟩)])/\w'=w.alloc (G #[B a len cap] 45):=by
 refine Bn func292 J b ?_ c;simp only[ntmps292,Aw,Al,AX,Nat.reduceAdd,Nat.reduceSub,Az,AA,AU,AJ,As,AK];gi_wp2;go_ret;exact⟨J,J⟩
end
variable {F:Fence} {n:Nat} {P:Program}
theorem UO{g:Operand}{ps:Array Tmp}{assign body:Code}{Q:Exit->Act->C->Prop}{a:Act}{w:C}
(bj:F.round=none)(h1:1<=n){gf:Nat}{lb:Array H}(hg:a.eval g=.func (.func gf) #[] lb)(ai:F.fn gf)(eg:∀args w,(callFunc gf args).run P w=.ok (.enter gf args) w)
{N:Nat}{args:Nat->Array H}{Rd:Nat->C->Prop}(bm:Mb F (n-1) P gf lb N args Rd)(bi:∀k,(args k).size=ps.size)
(I:Nat->C->Prop)(A:Code->Nat->C->Prop)(x:OwnFrom w.heap.size I)(L:∀c,OwnFrom w.heap.size (A c))(h0:I 0 w)(aj:∀k W,I k W->Rd k W)(X:Nat->Nat->Act)(o:Nat->Obj)
(am:∀(l k:Nat) (W:C) (K:Act->C->Prop),K (X k W.heap.size) (W.alloc (o k))->
  assign.wpIn (F.inRound l) (n-1-1) P (Exit.then K λ_ _ _=>False) { tmps:=(ps.zip (args k)).foldl (λt (p,v)=>t.setIfInBounds p v) a.tmps,defers:=[] } W)
(an:∀(l k b:Nat) (W:C),I k W->k<N->w.heap.size<W.heap.size->w.heap.size+1<b->W.heap[b]?=some (o k)->body.wpIn (F.inRound l) (n-1-1) P (roundPost w.heap.size I A k W) (X k b) W)
(aq:∀(D:Nat) (W:C),w.heap.size<=D->I N W->W.heap[D]?=some (E (some []))->Q .normal { a with defers:={ target:=.collected D,args:=#[] }::a.defers } W)
(bn:∀(D:Nat) (c:Code) (k:Nat) (W:C),w.heap.size<=D->k<N->A c k W->W.heap[D]?=some (E (some []))->c.wpIn F n P Q { a with defers:={ target:=.collected D,args:=#[] }::a.defers } W):
 (Code.rangeFunc g ps assign body).wpIn F n P Q a w:=by
 refine wpIn_rangeFunc λfn ay=>?_;rw[bj];obtain⟨rc,q⟩:∃rc:LoopState->Option Code->Loop,rc=λst pe=>{ state:=st,pending:=pe,fn,tmps:=a.tmps,params:=ps,assign,body,defers:=w.heap.size }:=⟨_,J⟩;obtain⟨V,S⟩:=ex ((w.alloc (E (some []))).alloc (.loop (rc .ready none)));have vL:V.heap[w.heap.size+1]?=some (.loop (rc .ready none)):=by
  rw[<-S];have:=BD (w.alloc (E (some []))) (.loop (rc .ready none));rwa[Ax]at this
 have vD:V.heap[w.heap.size]?=some (E (some [])):=by
  rw[<-S];exact(Bf _ _ _ DI).trans (BD w _)
 have vI:I 0 V:=by rw[<-S];exact x.alloc _ (x.alloc _ h0)
 refine⟨w.heap.size+1,[{ target:=.collected w.heap.size,args:=#[] }],V,{ target:=.fn (.func gf) lb,args:=#[.func (.yield (w.heap.size+1)) #[] #[]] },V,gf,
  #[.func (.yield (w.heap.size+1)) #[] #[]]++lb,V,?_,?_,?_,?_,λ_=>h1,?_⟩
 . grind[run_enterLoop_outer]
 . simp only[resolve,hg];simp[go_sem]
 . intro f' ae;simp[Target.leads]at ae;subst ae;exact ai
 . simp[invoke,go_sem,eg]
 refine(bm (w.heap.size+1)
  (λk W=>I k W/\W.heap[w.heap.size+1]?=some (.loop (rc .ready none))/\W.heap[w.heap.size]?=some (E (some [])))
  (λk W=>∃c,A c k W/\W.heap[w.heap.size+1]?=some (.loop (rc .done (some c)))/\W.heap[w.heap.size]?=some (E (some [])))
  V (λk W h=>aj k W h.1) ?_ ⟨vI,vL,vD⟩).mono ?_
 . rintro k W ⟨hi,hl,hk⟩ bg;have R:w.heap.size+1<W.heap.size:=(Ab.1 hl).1;have hy:=run_yield (P:=P) (args:=args k) hl (by rw[q];exact bi k);rw[q]at hy;obtain⟨u,y⟩:=ex (W.alloc (o k));have M:u.heap[w.heap.size+1]?=some (.loop (rc .ready none)):=by rw[<-y];exact(Bf _ _ _ R).trans hl
   have Qi:u.heap[w.heap.size]?=some (E (some [])):=by rw[<-y];exact(Bf _ _ _ O).trans hk
   have Qg:I k u:=by rw[<-y];exact x.alloc _ hi
   have U:u.heap[W.heap.size]?=some (o k):=by rw[<-y];exact BD W _
   refine⟨fn,_,assign,body,hy,roundIn_of_wpIn ay (am _ k W _ ?_)⟩;rw[y];refine⟨_,run_beginRound M (by rw[q]),?_⟩;obtain⟨bx,ap⟩:=ex (W.heap.size);rw[ap]at U R ⊢;have Qc:w.heap.size+1<u.heap.size:=(Ab.1 M).1;obtain⟨m,z⟩:=ex (u.putObj (w.heap.size+1) (.loop { rc .ready none with state:=.busy }));rw[z];have Qh:m.heap[w.heap.size+1]?=some (.loop { rc .ready none with state:=.busy }):=by rw[<-z];exact Bb Qc
   have Ql:m.heap[bx]?=some (o k):=by rw[<-z];exact(BM O).trans U
   have T:m.heap[w.heap.size]?=some (E (some [])):=by rw[<-z];exact(BM O).trans Qi
   have Qj:I k m:=by rw[<-z];exact x.putObj _ Qg O M J
   have Qk:w.heap.size<m.heap.size:=(Ab.1 T).1;have fin:∀(f:Option Code) (d:C),KeepsFrom w.heap.size m d->
    (Instr.endRound (w.heap.size+1) f).run P d=.ok (.bool f.isNone) (d.putObj (w.heap.size+1) (.loop (rc (if f.isNone then .ready else .done) f)))/\
    d.heap[w.heap.size+1]?=some (.loop { rc .ready none with state:=.busy })/\
    (d.putObj (w.heap.size+1) (.loop (rc (if f.isNone then .ready else .done) f))).heap[w.heap.size+1]?=some (.loop (rc (if f.isNone then .ready else .done) f))/\
    (d.putObj (w.heap.size+1) (.loop (rc (if f.isNone then .ready else .done) f))).heap[w.heap.size]?=some (E (some [])):=λf d ah=>by
    have i:=ah.same _ _ O Qh J;have j:=run_endRound (P:=P) f i;rw[q]at j ⊢;exact⟨j,DH,Bb (Ab.1 i).1,(BM O).trans (ah.same _ _ (Aa _) T J)⟩
   refine wpIn_mono (an _ k bx m Qj bg Qk R Ql) λe a3 d hp=>?_;cases e with
   |normal=>
    obtain⟨j,i,s,r⟩:=fin none d hp.1;exact⟨_,_,j,.inl ⟨J,x.putObj _ hp.2 O i J,s,r⟩⟩
   |ret=>
    obtain⟨j,i,s,r⟩:=fin (some .ret) d hp.1;exact⟨_,_,j,.inr ⟨J,.ret,(L _).putObj _ hp.2 O i J,s,r⟩⟩
   |exit id=>
    obtain⟨j,i,s,r⟩:=fin (some (.exit id)) d hp.1;exact⟨_,_,j,.inr ⟨J,.exit id,(L _).putObj _ hp.2 O i J,s,r⟩⟩
   |goto t=>
    obtain⟨j,i,s,r⟩:=fin (some (.goto t)) d hp.1;exact⟨_,_,j,.inr ⟨J,.goto t,(L _).putObj _ hp.2 O i J,s,r⟩⟩
   |panic ch=>exact hp.elim
   |outgrown=>exact hp.elim
 . rintro e m ⟨⟨v,rfl⟩,(⟨hi,hl,hk⟩|⟨k,az,c,hi,hl,hk⟩)⟩
   . exact⟨none,_,by have:=run_endLoop (P:=P) hl (by rw[q];simp);rw[q]at this;exact this,aq _ _ (Aa _) (x.putObj _ hi O hl J) ((BM O).trans hk)⟩
   . exact⟨some c,_,by have:=run_endLoop (P:=P) hl (by rw[q];simp);rw[q]at this;exact this,bn _ c k _ (Aa _) az ((L c).putObj _ hi O hl J) ((BM O).trans hk)⟩

