import Derived.RangeFuncNested
import Derived.RangeFuncBound
import Derived.Shelf.RegionOpen
import Derived.WalkSpells
import Derived.WalkLawsBesides
import Derived.OwnWalkIn
import Derived.LoopNIn
import Derived.LoopIn
import Derived.Test.YtcahejkcdcjjgaaGreatDoorS02
import Derived.Test.YtcahejkcdcjjgaaGreatDoorProg
set_option linter.all false
open Go.Value renaming slice->B
open Go renaming World->C,Value->H
open Go.Obj renaming deferred->E,cells->G
set_option maxRecDepth 99999
set_option maxHeartbeats 0
namespace Go.Proofs.YtcahejkcdcjjgaaGreatDoor
open Proofs.Tryz
open Go.RowKit Go.Shelf
section
def WS{p:Prop}(h:p:=by kernel_rfl):p:=h
abbrev WO:=Option Addr
def DP:=@belowK_b
def DN:=@ownFrom_pure
def DJ:=@Hid.out
def DF:=@enters_of
def DE:=@World.putObj_heap_same
def DB:=@callsIn_of_wp
def DA:=@ownFrom_below
def B7:=@Below.heap_alloc
def B5:=@Own.from
def Bw:=@World.putObj_heap_other
def Bq:=@run_takeDeferred
def Bp:=@grownBy_putObj'
def Bn:=@callsIn_of_wp_marks
def Bj:=@OwnFrom.and
def Bg:=@KeepsOthers.setCell
def Be:=@callsIn_wide
def Bb:=@Boxed.new
def BV:=@World.alloc_heap_new
def BR:=@Below.heap_setCell
def BM:=@bodyPost_ret
theorem BL:type_of% @Below.refl:=@Below.refl
theorem A1:type_of% @World.size_alloc:=@World.size_alloc
abbrev QB(k:IntKind):TypeId:=match k with|.i64=>3|_=>163
def EW(k:IntKind)(W:C)(b:Nat):Prop:=∃cs m,W.heap[b]?=some (G cs (QB k) m)
variable{c:Int}{k:IntKind}{ds f:U}{b m:Nat}{W W':C}
theorem EW.lt(h:EW k W b):b<W.heap.size:=by obtain⟨cs,m,h⟩:=h;grind
theorem EW.of(h:EW k W b)(e:W'.heap[b]?=W.heap[b]?):EW k W' b:=by obtain⟨cs,m,h⟩:=h;exact⟨cs,m,e.trans h⟩
def EW.below(h:EW k W b)(a:Below W.heap.size W W'):EW k W' b:=h.of (a.block b h.lt)
theorem EW.set(h:EW k W b)(p:Addr)(u:H):EW k (W.setCell p u) b:=by
 by_cases e:b=p.block
 . obtain⟨cs,m,h⟩:=h;obtain⟨c,a⟩:=Ab.1 h;subst e;refine⟨if p.spot.isSome=true then cs else cs.setIfInBounds p.off u,m,?_⟩;show(W.heap.modify p.block _)[p.block]?=_;grind
 . exact h.of (BR W p u b e)
def Row(k:IntKind)(W:C)(v:H)(ds:U):Prop:=
 ∃a cap,v=B a ds.length cap/\ds.length<=cap/\cap<=9223372036854775807/\ds.length<=1099511627776/\
  (ds=[]\/∃b c,a=some ⟨b,c,none⟩/\EW k W b/\∀j,j<ds.length->W.cell? ⟨b,c+j,none⟩=some (.int k (ds[j]?.getD 0:Nat)))
def Row.below{k:IntKind}{W W':C}{v:H}{ds:U}(h:Row k W v ds)(d:Below W.heap.size W W'):Row k W' v ds:=by
 obtain⟨a,cap,e,l,m,n,c⟩:=h;refine⟨a,cap,e,l,m,n,?_⟩;rcases c with c|⟨b,g,i,f,o⟩
 . exact Az c
 . exact AE ⟨b,g,i,f.below d,λj q=>(d.cell (p:=⟨b,g+j,none⟩) f.lt).trans (o j q)⟩
theorem Row.typ{a:WO}{l cap:Nat}(h:Row k W (B a l cap) ds)(g:0<l):∃b c,a=some ⟨b,c,none⟩/\EW k W b:=by
 obtain⟨d,f,e,_,_,_,i⟩:=h;grind
theorem Row.nil(k:IntKind)(W:C):Row k W (B none 0 0) []:=⟨none,0,J,Aa _,Z,DQ,Az J⟩
theorem Row.open{v:H}(h:Row k W v ds):∃a cap,v=B a ds.length cap/\ds.length<=cap/\cap<=9223372036854775807/\ds.length<=1099511627776/\
 Hid (∀j,j<ds.length->∃b c,a=some ⟨b,c,none⟩/\b<W.heap.size/\W.cell? ⟨b,c+j,none⟩=some (.int k (ds[j]?.getD 0:Nat))):=by
 obtain⟨a,cap,e,g,i,l,d⟩:=h;refine⟨a,cap,e,g,i,l,λj o=>?_⟩;rcases d with d|⟨b,c,f,m,n⟩
 . grind
 . exact⟨b,c,f,m.lt,n j o⟩
def Tryz.infoU64:(Tryz.prog.info? 163).map (λi=>(i.zero,i.size,i.bytes))=some (some (.int .u64 0),1,8):=by kernel_rfl
def cellsOf(k:IntKind)(ds:U):List H:=ds.map λd=>Value.int k (d:Nat)
def QC(k:IntKind)(ds:U)(d:Nat):cellsOf k (ds++[d])=cellsOf k ds++[.int k (d:Nat)]:=by simp[cellsOf]
theorem Mh(k:IntKind)(ds:U):(cellsOf k ds).length=ds.length:=by simp[cellsOf]
def lenV:H->Nat|B _ k _=>k|_=>0
def RN(W:C)(v:H)(n:Nat):Prop:=Row .i64 W v (Jc 10000 n)
def Fw(b d:U)(k c:Nat)(a:U):Prop:=
 a.length=k/\DR 10000 a/\c<=1/\val 10000 a+10000^k*c=val 10000 (b.take k)+val 10000 (d.take k)/\
  (k<=max b.length d.length\/(k=max b.length d.length+1/\c=0/\10000^(k-1)<=val 10000 a))
def Fw.start(a b:U):Fw a b 0 0 []:=⟨J,DR.nil _,Z,by simp[val],Az Z⟩
def Fw.step{a:U}{k c:Nat}{b:U}(h:Fw f a k c b)(m:DR 10000 f)(n:DR 10000 a)(s:k<f.length\/k<a.length\/0<c):
 Fw f a (k+1) ((c+(f[k]?.getD 0+a[k]?.getD 0))/10000) (b++[(c+(f[k]?.getD 0+a[k]?.getD 0))%10000]):=by
 obtain⟨hl,j,r,l,d⟩:=h;have p:=m.getD Z k;have q:=n.getD Z k;subst hl;refine⟨DQ,j.append (DR.cons (AY _ Z) (DR.nil _)),Z,?_,?_⟩
 . rw[Pm b c _ _ l,Jk,Jk,CY];omega
 . rcases d with d|⟨d,o,_⟩
   . by_cases t:b.length<max f.length a.length
     . exact Az Z
     . have e:f[b.length]?.getD 0=0:=by rw[Cg Z];rfl
       have g:a[b.length]?.getD 0=0:=by rw[Cg Z];rfl
       have i:c=1:=Z
       rw[e,g,i];refine AE ⟨Z,Z,?_⟩;rw[J4];simp
   . omega
def Fw.done{n k:Nat}(h:Fw (Jc 10000 m) (Jc 10000 n) k 0 f)(b:(Jc 10000 m).length<=k)(c:(Jc 10000 n).length<=k):f=Jc 10000 (m+n):=by
 obtain⟨hl,d,g,e,a⟩:=h;rw[Ad b,Ad c,Jl Z,Jl Z]at e;refine Pn Z d Z ?_ Z;rcases a with a|⟨_,_,a⟩
 . exact Az Z
 . exact AE (by rw[hl];exact a)
def Fx(b d:U)(k:Nat)(c:Int)(a:U):Prop:=
 a.length=k/\DR 10000 a/\(c=0\/c=-1)/\(val 10000 a:Int)+val 10000 (d.take k)=val 10000 (b.take k)-(10000^k:Nat)*c
def Fx.start(a b:U):Fx a b 0 0 []:=⟨J,DR.nil _,Az J,by simp[val]⟩
def Fx.step{b:U}{k:Nat}{a:U}(h:Fx f b k c a)(n:DR 10000 f)(o:DR 10000 b)(c':Int)(d:Nat)(i:(d:Int)=c+f[k]?.getD 0-b[k]?.getD 0-10000*c')(j:d<10000):
 Fx f b (k+1) c' (a++[d]):=by
 obtain⟨hl,hg,t,m⟩:=h;have r:=n.getD Z k;have s:=o.getD Z k;subst hl;refine⟨DQ,hg.append (DR.cons j (DR.nil _)),Z,?_⟩;rw[J4,Jk,Jk];generalize l:(10000^a.length:Nat)=q at m ⊢;have e:(10000^(a.length+1):Nat)=q*10000:=by rw[Ce,l]
 rw[e];have p:((q*d:Nat):Int)=(q:Int)*c+q*(f[a.length]?.getD 0:Nat)-q*(b[a.length]?.getD 0:Nat)-q*(10000*c'):=by
  rw[Int.natCast_mul,i,Int.mul_sub,Int.mul_sub,Int.mul_add]
 have g:((q*10000:Nat):Int)*c'=q*(10000*c'):=by rw[Int.natCast_mul,Int.mul_assoc];rfl
 rw[g];generalize (q:Int)*(10000*c')=z at *;simp only[Int.natCast_add,Int.natCast_mul]at *;omega
def Fx.done{n:Nat}(k:n<=m)(h:Fx (Jc 10000 m) (Jc 10000 n) (Jc 10000 m).length c f):Jw f=Jc 10000 (m-n):=by
 obtain⟨hl,b,j,d⟩:=h;have i:(Jc 10000 n).length<=(Jc 10000 m).length:=by
  rcases AJ (Jc 10000 m).length (Jc 10000 n).length with g|g
  . have:=YK Z g;omega
  . exact g
 rw[Ad (Aa _),Ad i,Jl Z,Jl Z]at d;have a:=JY b;rw[hl]at a;have e:val 10000 f=m-n:=by
  rcases j with rfl|rfl
  . omega
  . generalize (10000^(Jc 10000 m).length:Nat)=q at d a;omega
 rw[<-JP Z b,e]
def GR(F:Fence)(n:Nat)(P:Program)(g:Nat)(lb:Array H)(b:Nat)(args:Nat->Array H)(Rd:Nat->C->Prop):Prop:=
 ∀(l:Nat) (J c:Nat->C->Prop) (W:C),(∀k a,J k a->Rd k a)->
  (∀k a,J k a->k<b->YieldAt F (n-1) P l (args k) a λe W'=>(e=.returned (.bool true)/\J (k+1) W')\/(e=.returned (.bool false)/\c k W'))->
  J 0 W->CallsIn F n P g (#[.func (.yield l) #[] #[]]++lb) W λe W'=>(∃v,e=.returned v)/\(J b W'\/∃k,k<b/\c k W')
def roundPost(B:Nat)(I:Nat->C->Prop)(a:Code->Nat->C->Prop)(k:Nat)(W:C):Exit->Act->C->Prop
 |.normal,_,W'=>KeepsFrom B W W'/\I (k+1) W'
 |.ret,_,W'=>KeepsFrom B W W'/\a .ret k W'
 |.exit id,_,W'=>KeepsFrom B W W'/\a (.exit id) k W'
 |.goto t,_,W'=>KeepsFrom B W W'/\a (.goto t) k W'
 |.panic _,_,_=>False
 |.outgrown,_,_=>False
variable {F:Fence} {n:Nat} {P:Program}
theorem Yt{g:Operand}{ps:Array Tmp}{assign body:Code}{Q:Exit->Act->C->Prop}{a:Act}{w:C}
(aq:F.round=none)(h1:1<=n){gf:Nat}{lb:Array H}(hg:a.eval g=.func (.func gf) #[] lb)(ad:F.fn gf)(eg:∀args w,(callFunc gf args).run P w=.ok (.enter gf args) w)
{y:Nat}{args:Nat->Array H}{Rd:Nat->C->Prop}(ay:GR F (n-1) P gf lb y args Rd)(ap:∀k,(args k).size=ps.size)
(I:Nat->C->Prop)(x:Code->Nat->C->Prop)(r:OwnFrom w.heap.size I)(z:∀c,OwnFrom w.heap.size (x c))(h0:I 0 w)(ae:∀k W,I k W->Rd k W)(N:Nat->Act)
(ah:∀(l k:Nat) (W:C) (K:Act->C->Prop),K (N k) W->
  assign.wpIn (F.inRound l) (n-1-1) P (Exit.then K λ_ _ _=>False) { tmps:=(ps.zip (args k)).foldl (λt (p,v)=>t.setIfInBounds p v) a.tmps,defers:=[] } W)
(ai:∀(l k:Nat) (W:C),I k W->k<y->w.heap.size<W.heap.size->body.wpIn (F.inRound l) (n-1-1) P (roundPost w.heap.size I x k W) (N k) W)
(aj:∀(D:Nat) (W:C),w.heap.size<=D->I y W->W.heap[D]?=some (E (some []))->Q .normal { a with defers:={ target:=.collected D,args:=#[] }::a.defers } W)
(az:∀(D:Nat) (c:Code) (k:Nat) (W:C),w.heap.size<=D->k<y->x c k W->W.heap[D]?=some (E (some []))->c.wpIn F n P Q { a with defers:={ target:=.collected D,args:=#[] }::a.defers } W):
 (Code.rangeFunc g ps assign body).wpIn F n P Q a w:=by
 refine wpIn_rangeFunc λfn ak=>?_;rw[aq];obtain⟨rc,j⟩:∃rc:LoopState->Option Code->Loop,rc=λst pe=>{ state:=st,pending:=pe,fn,tmps:=a.tmps,params:=ps,assign,body,defers:=w.heap.size }:=⟨_,J⟩;obtain⟨V,L⟩:=ex ((w.alloc (E (some []))).alloc (.loop (rc .ready none)));have vL:V.heap[w.heap.size+1]?=some (.loop (rc .ready none)):=by
  rw[<-L];have:=BV (w.alloc (E (some []))) (.loop (rc .ready none));rwa[A1]at this
 have vD:V.heap[w.heap.size]?=some (E (some [])):=by
  rw[<-L];exact(B7 _ _ _ DQ).trans (BV w _)
 have vI:I 0 V:=by rw[<-L];exact r.alloc _ (r.alloc _ h0)
 refine⟨w.heap.size+1,[{ target:=.collected w.heap.size,args:=#[] }],V,{ target:=.fn (.func gf) lb,args:=#[.func (.yield (w.heap.size+1)) #[] #[]] },V,gf,
  #[.func (.yield (w.heap.size+1)) #[] #[]]++lb,V,?_,?_,?_,?_,λ_=>h1,?_⟩
 . grind[run_enterLoop_outer]
 . simp only[resolve,hg];simp[go_sem]
 . intro f' R;simp[Target.leads]at R;subst R;exact ad
 . simp[invoke,go_sem,eg]
 refine(ay (w.heap.size+1)
  (λk W=>I k W/\W.heap[w.heap.size+1]?=some (.loop (rc .ready none))/\W.heap[w.heap.size]?=some (E (some [])))
  (λk W=>∃c,x c k W/\W.heap[w.heap.size+1]?=some (.loop (rc .done (some c)))/\W.heap[w.heap.size]?=some (E (some [])))
  V (λk W h=>ae k W h.1) ?_ ⟨vI,vL,vD⟩).mono ?_
 . rintro k W ⟨s,hl,u⟩ an;have Qf:w.heap.size+1<W.heap.size:=(Ab.1 hl).1;have T:=run_yield (P:=P) (args:=args k) hl (by rw[j];exact ap k);rw[j]at T;refine⟨fn,_,assign,body,T,roundIn_of_wpIn ak (ah _ k W _ ⟨_,run_beginRound hl (by rw[j]),?_⟩)⟩;obtain⟨m,A⟩:=ex (W.putObj (w.heap.size+1) (.loop { rc .ready none with state:=.busy }));rw[A];have U:m.heap[w.heap.size+1]?=some (.loop { rc .ready none with state:=.busy }):=by rw[<-A];exact DE Qf
   have M:m.heap[w.heap.size]?=some (E (some [])):=by rw[<-A];exact(Bw Z).trans u
   have X:I k m:=by rw[<-A];exact r.putObj _ s Z hl J
   have Qe:w.heap.size<m.heap.size:=(Ab.1 M).1;have fin:∀(d:Option Code) (b:C),KeepsFrom w.heap.size m b->
    (Instr.endRound (w.heap.size+1) d).run P b=.ok (.bool d.isNone) (b.putObj (w.heap.size+1) (.loop (rc (if d.isNone then .ready else .done) d)))/\
    b.heap[w.heap.size+1]?=some (.loop { rc .ready none with state:=.busy })/\
    (b.putObj (w.heap.size+1) (.loop (rc (if d.isNone then .ready else .done) d))).heap[w.heap.size+1]?=some (.loop (rc (if d.isNone then .ready else .done) d))/\
    (b.putObj (w.heap.size+1) (.loop (rc (if d.isNone then .ready else .done) d))).heap[w.heap.size]?=some (E (some [])):=λd b S=>by
    have f:=S.same _ _ Z U J;have i:=run_endRound (P:=P) d f;rw[j]at i ⊢;exact⟨i,De,DE (Ab.1 f).1,(Bw Z).trans (S.same _ _ (Aa _) M J)⟩
   refine wpIn_mono (ai _ k m X an Qe) λe a3 b hp=>?_;cases e with
   |normal=>
    obtain⟨i,f,q,o⟩:=fin none b hp.1;exact⟨_,_,i,.inl ⟨J,r.putObj _ hp.2 Z f J,q,o⟩⟩
   |ret=>
    obtain⟨i,f,q,o⟩:=fin (some .ret) b hp.1;exact⟨_,_,i,.inr ⟨J,.ret,(z _).putObj _ hp.2 Z f J,q,o⟩⟩
   |exit id=>
    obtain⟨i,f,q,o⟩:=fin (some (.exit id)) b hp.1;exact⟨_,_,i,.inr ⟨J,.exit id,(z _).putObj _ hp.2 Z f J,q,o⟩⟩
   |goto t=>
    obtain⟨i,f,q,o⟩:=fin (some (.goto t)) b hp.1;exact⟨_,_,i,.inr ⟨J,.goto t,(z _).putObj _ hp.2 Z f J,q,o⟩⟩
   |panic ch=>exact hp.elim
   |outgrown=>exact hp.elim
 . rintro e m ⟨⟨v,rfl⟩,(⟨s,hl,u⟩|⟨k,am,c,s,hl,u⟩)⟩
   . exact⟨none,_,by have:=run_endLoop (P:=P) hl (by rw[j];simp);rw[j]at this;exact this,aj _ _ (Aa _) (r.putObj _ s Z hl J) ((Bw Z).trans u)⟩
   . exact⟨some c,_,by have:=run_endLoop (P:=P) hl (by rw[j];simp);rw[j]at this;exact this,az _ c k _ (Aa _) am ((z c).putObj _ s Z hl J) ((Bw Z).trans u)⟩
end
section
attribute [local go_sem] Oper.semAt_some
def Mi(d:Nat)(a:WO)(len cap:Nat)(e:Nat->Nat)(k:Nat)(W:C):Prop:=
 W.cell? ⟨d,0,none⟩=some (B a len cap)/\(k<len->∃b c,a=some ⟨b,c,none⟩/\W.cell? ⟨b,c+(len-1-k),none⟩=some (.int .u64 (e (len-1-k):Nat)))
def Xj(len:Nat)(a:Nat->Nat)(k:Nat):Array H:=#[.int .i64 ((len:Int)-1-k),.int .u64 (a (len-1-k):Nat)]
variable{ds:U}
def Gr(F:Fence)(n:Nat)(y:F.fn 174)(z:F.round=none)(Q:1<=n)(d:Nat)(a:WO)(len cap:Nat)(r:Nat->Nat)(P:len<=1099511627776):
 GR F n Tryz.prog 174 #[.pointer (some ⟨d,0,none⟩)] len (Xj len r) (Mi d a len cap r):=λl J A W j w g=>by
 have L:=(j 0 W g).1;refine DB func174 rfl y ?_ z;simp only[ntmps174,Ak,Ag,AB,Nat.reduceAdd,Nat.reduceSub,An,Ao,Ax,Ap,Al,Aw];gi_wp2;gi_loopw [3] (λi wr=>∃k:Nat,k<=len/\i=.int .i64 ((len:Int)-1-k)/\J k wr) λi _=>(intOf i+1).toNat
 case atStart=>exact⟨0,AN _,DQ,g⟩
 case round=>
  obtain⟨k,N,rfl,hJ⟩:=hrel;obtain⟨K,x⟩:=j k wr hJ;by_cases c:k<len
  . obtain⟨b,R,rfl,M⟩:=x c;obtain⟨fn,tmps,assign,body,q,v⟩:=w k wr hJ c;have f:((len:Int)-1-k)=((len-1-k:Nat):Int):=Z
    have I:len-1-k<len:=Z
    dsimp only[Xj]at q;rw[f]at q ⊢;generalize o:len-1-k=m at *;have s:=DJ (p:=Hid (len-1-k=m)) o;clear o f;gi_wp2;refine v.mono ?_;rintro e D (⟨rfl,t⟩|⟨rfl,u⟩)
    . gi_wp2;go_roundw
      case rel=>exact⟨k+1,Z,by(congr 1;have:=s.out;omega),t⟩
      case measure=>simp[intOf]
    . gi_wp2;refine BM (results_none rfl _ _ _) rfl ?_;exact⟨⟨_,rfl⟩,.inr ⟨k,c,u⟩⟩
  . obtain rfl:k=len:=Z
    gi_wp2;go_end0;exact⟨⟨_,rfl⟩,.inl hJ⟩
def Gs(F:Fence)(n:Nat)(b:F.fn 147)(c:F.round=none)(a:WO)(len cap:Nat)(w:C):
 CallsIn F n Tryz.prog 147 #[B a len cap] w λe d=>e=.returned (.func (.func 174) #[] #[.pointer (some ⟨w.heap.size,0,none⟩)])/\d=w.alloc (G #[B a len cap] 34):=by
 refine DB func147 J b ?_ c;simp only[ntmps147,Ak,Ag,AB,Nat.reduceAdd,Nat.reduceSub,An,Ao,Ax,Ap,Al,Aw];gi_wp2;go_ret;exact⟨J,J⟩
def Jn{k:IntKind}{W:C}{a:WO}{l cap:Nat}(h:Row k W (B a l cap) ds):l=ds.length/\l<=cap/\cap<=9223372036854775807/\l<=1099511627776/\
 ∀j,j<l->∃b c,a=some ⟨b,c,none⟩/\b<W.heap.size/\W.cell? ⟨b,c+j,none⟩=some (.int k (ds[j]?.getD 0:Nat)):=by
 obtain⟨m,c',e,d,f,g,i⟩:=Row.open h;cases e;exact⟨J,d,f,g,i⟩
theorem Mj{j:Nat}(a:j<ds.length)(h:ds[j]?.getD 0=0):ds[j]?=some 0:=by
 grind
def Mk(w:C)(a:WO)(len cap:Nat)(ds:U)(k:Nat)(W:C):Prop:=
 (((Boxed W w.heap.size 34 (B a len cap)/\Boxed W (w.heap.size+1) 34 (B none 0 0))/\Boxed W (w.heap.size+1+1) 34 (B a len cap))/\Below w.heap.size w W)/\∀j,len-k<=j->j<len->ds[j]?.getD 0=0
def Ml(w:C)(a:WO)(len cap:Nat)(ds:U)(c:Code)(k:Nat)(W:C):Prop:=
 (Boxed W (w.heap.size+1) 34 (B a (len-1-k+1) cap)/\Below w.heap.size w W)/\(c=.ret/\ds[len-1-k]?.getD 0≠0/\∀j,len-k<=j->j<len->ds[j]?.getD 0=0)
def QD(w:C)(a:WO)(len cap:Nat)(ds:U):OwnFrom (w.heap.size+1+1+1) (Mk w a len cap ds):=
 Bj (Bj (Bj (Bj (B5 (boxed_own _ _ λ_=>B a len cap) _) (B5 (boxed_own _ _ λ_=>B none 0 0) _)) (B5 (boxed_own _ _ λ_=>B a len cap) _)) (DA (Aa _) Z)) (DN _ _)
def QE(w:C)(a:WO)(len cap:Nat)(ds:U)(c:Code):OwnFrom (w.heap.size+1+1+1) (Ml w a len cap ds c):=
 Bj (Bj (B5 (boxed_own _ _ λk=>B a (len-1-k+1) cap) _) (DA (Aa _) Z)) (DN _ _)
theorem Ic(a:WO)(len cap:Nat)(ds:List Nat)(w:C)(h:Row .u64 w (B a len cap) ds):
 Calls Tryz.prog 132 #[B a len cap] w λe P=>∃u,e=.returned u/\(Row .u64 P u (Jw ds)/\Below w.heap.size w P)/\(u=B none 0 0/\Jw ds=[]\/u=B a (Jw ds).length cap):=by
 obtain⟨hl,ak,ah,ai,z⟩:=Jn h;have Q:=DJ (p:=Hid (len=ds.length)) hl;have HC:=DJ (p:=Hid (∀j,j<len->∃b o,a=some ⟨b,o,none⟩/\b<w.heap.size/\w.cell? ⟨b,o+j,none⟩=some (.int .u64 (ds[j]?.getD 0:Nat)))) z;clear z hl;refine(Be (n:=3)).1 ?_;refine Bn func132 J trivial ?_ J;simp only[ntmps132,Ak,Ag,AB,Nat.reduceAdd,Nat.reduceSub,An,Ao,Ax,Ap,Al,Aw];gi_wp2_with(refine⟨trivial,?_⟩;gi_at_call 147;refine(Gs Fence.wide _ trivial J _ _ _ _).mono ?_;rintro e P ⟨rfl,rfl⟩)
 have b0:=((Bb w 34 (B a len cap)).alloc (G #[B none 0 0] 34)).alloc (G #[B a len cap] 34);have T:=(Bb (w.alloc (G #[B a len cap] 34)) 34 (B none 0 0)).alloc (G #[B a len cap] 34);have F:=Bb ((w.alloc (G #[B a len cap] 34)).alloc (G #[B none 0 0] 34)) 34 (B a len cap);simp only[A1]at T F;have Qd:Below w.heap.size w (((w.alloc (G #[B a len cap] 34)).alloc (G #[B none 0 0] 34)).alloc (G #[B a len cap] 34)):=(((BL _ w).alloc (Aa _) _).alloc DQ _).alloc si _;have hN:(((w.alloc (G #[B a len cap] 34)).alloc (G #[B none 0 0] 34)).alloc (G #[B a len cap] 34)).heap.size=w.heap.size+1+1+1:=DQ
 refine Yt J Z (gf:=174) (lb:=#[.pointer (some ⟨w.heap.size+1+1,0,none⟩)]) J trivial (DF func174 WS J)
  (Gr Fence.wide _ trivial J Z (w.heap.size+1+1) a len cap (λj=>ds[j]?.getD 0) ai) (λ_=>rfl)
  (Mk w a len cap ds) (Ml w a len cap ds) (by rw[hN];exact QD w a len cap ds) (λc=>by rw[hN];exact QE w a len cap ds c)
  ⟨⟨⟨⟨b0,T⟩,F⟩,Qd⟩,λj h1 y=>by omega⟩ ?rd
  (λk=>{ tmps:=#[B a len cap,.pointer (some ⟨w.heap.size,0,none⟩),.pointer (some ⟨w.heap.size+1,0,none⟩),.int .i64 ((len:Int)-1-k),.int .u64 (ds[len-1-k]?.getD 0:Nat),B a len cap,.func (.func 174) #[] #[.pointer (some ⟨w.heap.size+1+1,0,none⟩)],.int .i64 ((len:Int)-1-k),.int .u64 (ds[len-1-k]?.getD 0:Nat),undef,undef,undef,undef,undef,undef],defers:=[] }) ?assign ?body ?done ?stop
 case rd=>
  rintro k W ⟨⟨⟨_,c2⟩,f⟩,_⟩;refine⟨c2.cell,λhk=>?_⟩;obtain⟨b,o,t,hb,z⟩:=HC.out (len-1-k) Z;exact⟨b,o,t,(f.cell (p:=⟨b,o+(len-1-k),none⟩) hb).trans z⟩
 case assign=>
  intro l k W K r;unfold Xj;gi_wp2;exact r
 case body=>
  rintro l k W ⟨⟨⟨⟨c0,c1⟩,c2⟩,f⟩,i⟩ hk an;have d0:=c0.cell;have d1:=c1.cell;have f1:=c1.frozen;have d:=DJ (p:=Hid (∀j,len-k<=j->j<len->ds[j]?.getD 0=0)) i;clear i;have I:((len:Int)-1-k)=((len-1-k:Nat):Int):=Z
  rw[I];by_cases g:ds[len-1-k]?.getD 0=0
  . have v:=DJ (p:=Hid (ds[len-1-k]?.getD 0=0)) g;rw[g];clear g I;gi_wp2;refine⟨KeepsFrom.refl _ _,⟨⟨⟨c0,c1⟩,c2⟩,f⟩,λj h1 y=>?_⟩;by_cases s:j=len-1-k
    . rw[s];exact v.out
    . exact d.out j Z y
  . have hm:len-1-k<len:=Z
    have Qc:(((ds[len-1-k]?.getD 0:Nat):Int) != 0)=true:=by rw[bne_iff_ne];omega
    have v:=DJ (p:=Hid (ds[len-1-k]?.getD 0≠0)) g;clear g I;have HK:=DJ (p:=Hid (ds[len-1-k]?.getD 0≠0/\∀j,len-k<=j->j<len->ds[j]?.getD 0=0)) ⟨v.out,d.out⟩;clear v d;generalize ds[len-1-k]?.getD 0=x at Qc ⊢;have HM:=DJ (p:=Hid (len-1-k=len-1-k)) J;generalize ae:len-1-k=m at hm ⊢;have Qe:=DJ (p:=Hid (len-1-k=m)) ae;clear ae HM;gi_wp2;refine⟨(Bg _ _ _).from _,⟨?_,f.setCell (p:=⟨w.heap.size+1,0,none⟩) DQ _⟩,J,HK.out⟩;rw[Qe.out];exact c1.set _
 case done=>
  rintro D W M ⟨⟨⟨⟨c0,c1⟩,c2⟩,f⟩,i⟩ r;have d1:=c1.cell;have f1:=c1.frozen;have d:=DJ (p:=Hid (∀j,len-len<=j->j<len->ds[j]?.getD 0=0)) i;clear i;gi_wp2;have S:=(Bg W ⟨w.heap.size+1,0,none⟩ (B none 0 0)).same D _ r J;refine⟨DQ,.inl ⟨_,_,J,Bq S,?_⟩⟩;have A:=(c1.set (B none 0 0)).kept (Bp _ D (E none)) (λe=>by grind);have q:=A.cell;have U:=Pj ds λj s=>Mj s (d.out j Z (by rw[Q.out];exact s));refine⟨B none 0 0,by simp[results,results132,go_sem,q],_,J,⟨?_,?_⟩,Az ⟨J,U⟩⟩
  . rw[U];exact Row.nil _ _
  . exact(f.setCell (p:=⟨w.heap.size+1,0,none⟩) DQ _).trans (DP (w:=w) (Aa _) _ D _ _ (by simp at M;omega) S J J)
 case stop=>
  rintro D c k W M hk ⟨⟨c1,f⟩,rfl,g,i⟩ r;have d1:=c1.cell;have d:=DJ (p:=Hid (ds[len-1-k]?.getD 0≠0/\∀j,len-k<=j->j<len->ds[j]?.getD 0=0)) ⟨g,i⟩;clear i g;gi_wp2;refine⟨DQ,.inl ⟨_,_,J,Bq r,?_⟩⟩;have A:=c1.kept (Bp _ D (E none)) (λe=>by grind);have q:=A.cell;have R:Below w.heap.size w (W.putObj D (E none)):=f.trans (DP (w:=w) (Aa _) _ D _ _ (by simp at M;omega) r J J);have am:=Q.out;have e:Jw ds=ds.take (len-1-k+1):=by
   refine Pi ds (len-1-k) Z ?_ ?_
   . intro h0;apply d.out.1;rw[h0];rfl
   . intro j h1 y;exact Mj y (d.out.2 j Z Z)
  have L:(ds.take (len-1-k+1)).length=len-1-k+1:=by rw[Aj];omega
  refine⟨B a (len-1-k+1) cap,by simp[results,results132,go_sem,q],_,J,⟨?_,R⟩,AE (by rw[e,L])⟩;rw[e];have hr:=Row.below h R;obtain⟨_,_,_,_,ad⟩:=Jn hr;obtain⟨b,o,t,hb,_⟩:=ad (len-1-k) Z;have N:EW .u64 (W.putObj D (E none)) b:=by
   obtain⟨F,o2,V,N⟩:=hr.typ Z;rw[t]at V;cases V;exact N
  refine⟨a,cap,by rw[L],Z,ah,Z,AE ⟨b,o,t,N,λj s=>?_⟩⟩;rw[L]at s;obtain⟨b',ap,X,_,aj⟩:=ad j Z;rw[t]at X;cases X;grind
theorem Ye(v:H)(ds:U)(w:C)(h:Row .u64 w v ds):
 Calls Tryz.prog 132 #[v] w λe b=>∃u,e=.returned u/\Row .u64 b u (Jw ds)/\Below w.heap.size w b:=by
 obtain⟨a,cap,rfl,c⟩:=id h;refine(Ic a _ cap ds w h).mono ?_;rintro e b ⟨u,rfl,⟨d,f⟩,_⟩;grind
def QF(F:Fence)(n:Nat)(y:F.fn 165)(z:F.round=none)(Q:1<=n)(d:Nat)(a:WO)(len cap:Nat)(r:Nat->Nat)(P:len<=4398046511104):
 GR F n Tryz.prog 165 #[.pointer (some ⟨d,0,none⟩)] len (Xj len r) (Mi d a len cap r):=λl J A W j w g=>by
 have L:=(j 0 W g).1;refine DB func165 rfl y ?_ z;simp only[ntmps165,Ak,Ag,AB,Nat.reduceAdd,Nat.reduceSub,An,Ao,Ax,Ap,Al,Aw];gi_wp2;gi_loopw [3] (λi wr=>∃k:Nat,k<=len/\i=.int .i64 ((len:Int)-1-k)/\J k wr) λi _=>(intOf i+1).toNat
 case atStart=>exact⟨0,AN _,DQ,g⟩
 case round=>
  obtain⟨k,N,rfl,hJ⟩:=hrel;obtain⟨K,x⟩:=j k wr hJ;by_cases c:k<len
  . obtain⟨b,R,rfl,M⟩:=x c;obtain⟨fn,tmps,assign,body,q,v⟩:=w k wr hJ c;have f:((len:Int)-1-k)=((len-1-k:Nat):Int):=Z
    have I:len-1-k<len:=Z
    dsimp only[Xj]at q;rw[f]at q ⊢;generalize o:len-1-k=m at *;have s:=DJ (p:=Hid (len-1-k=m)) o;clear o f;gi_wp2;refine v.mono ?_;rintro e D (⟨rfl,t⟩|⟨rfl,u⟩)
    . gi_wp2;go_roundw
      case rel=>exact⟨k+1,Z,by(congr 1;have:=s.out;omega),t⟩
      case measure=>simp[intOf]
    . gi_wp2;refine BM (results_none rfl _ _ _) rfl ?_;exact⟨⟨_,rfl⟩,.inr ⟨k,c,u⟩⟩
  . obtain rfl:k=len:=Z
    gi_wp2;go_end0;exact⟨⟨_,rfl⟩,.inl hJ⟩
def QG(F:Fence)(n:Nat)(b:F.fn 134)(c:F.round=none)(a:WO)(len cap:Nat)(w:C):
 CallsIn F n Tryz.prog 134 #[B a len cap] w λe d=>e=.returned (.func (.func 165) #[] #[.pointer (some ⟨w.heap.size,0,none⟩)])/\d=w.alloc (G #[B a len cap] 33):=by
 refine DB func134 J b ?_ c;simp only[ntmps134,Ak,Ag,AB,Nat.reduceAdd,Nat.reduceSub,An,Ao,Ax,Ap,Al,Aw];gi_wp2;go_ret;exact⟨J,J⟩
end
variable {F:Fence} {n:Nat} {P:Program}
theorem XS{g:Operand}{ps:Array Tmp}{assign body:Code}{Q:Exit->Act->C->Prop}{a:Act}{w:C}
(ba:F.round=none)(h1:1<=n){gf:Nat}{lb:Array H}(hg:a.eval g=.func (.func gf) #[] lb)(ah:F.fn gf)(eg:∀args w,(callFunc gf args).run P w=.ok (.enter gf args) w)
{N:Nat}{args:Nat->Array H}{Rd:Nat->C->Prop}(bc:GR F (n-1) P gf lb N args Rd)(az:∀k,(args k).size=ps.size)
(I:Nat->C->Prop)(M:Code->Nat->C->Prop)(x:OwnFrom w.heap.size I)(R:∀c,OwnFrom w.heap.size (M c))(h0:I 0 w)(ai:∀k W,I k W->Rd k W)(a₁:Nat->Nat->Act)(o:Nat->Obj)
(aj:∀(l k:Nat) (W:C) (K:Act->C->Prop),K (a₁ k W.heap.size) (W.alloc (o k))->
  assign.wpIn (F.inRound l) (n-1-1) P (Exit.then K λ_ _ _=>False) { tmps:=(ps.zip (args k)).foldl (λt (p,v)=>t.setIfInBounds p v) a.tmps,defers:=[] } W)
(ak:∀(l k b:Nat) (W:C),I k W->k<N->w.heap.size<W.heap.size->w.heap.size+1<b->W.heap[b]?=some (o k)->body.wpIn (F.inRound l) (n-1-1) P (roundPost w.heap.size I M k W) (a₁ k b) W)
(an:∀(D:Nat) (W:C),w.heap.size<=D->I N W->W.heap[D]?=some (E (some []))->Q .normal { a with defers:={ target:=.collected D,args:=#[] }::a.defers } W)
(bd:∀(D:Nat) (c:Code) (k:Nat) (W:C),w.heap.size<=D->k<N->M c k W->W.heap[D]?=some (E (some []))->c.wpIn F n P Q { a with defers:={ target:=.collected D,args:=#[] }::a.defers } W):
 (Code.rangeFunc g ps assign body).wpIn F n P Q a w:=by
 refine wpIn_rangeFunc λfn ap=>?_;rw[ba];obtain⟨rc,q⟩:∃rc:LoopState->Option Code->Loop,rc=λst pe=>{ state:=st,pending:=pe,fn,tmps:=a.tmps,params:=ps,assign,body,defers:=w.heap.size }:=⟨_,J⟩;obtain⟨V,U⟩:=ex ((w.alloc (E (some []))).alloc (.loop (rc .ready none)));have vL:V.heap[w.heap.size+1]?=some (.loop (rc .ready none)):=by
  rw[<-U];have:=BV (w.alloc (E (some []))) (.loop (rc .ready none));rwa[A1]at this
 have vD:V.heap[w.heap.size]?=some (E (some [])):=by
  rw[<-U];exact(B7 _ _ _ DQ).trans (BV w _)
 have vI:I 0 V:=by rw[<-U];exact x.alloc _ (x.alloc _ h0)
 refine⟨w.heap.size+1,[{ target:=.collected w.heap.size,args:=#[] }],V,{ target:=.fn (.func gf) lb,args:=#[.func (.yield (w.heap.size+1)) #[] #[]] },V,gf,
  #[.func (.yield (w.heap.size+1)) #[] #[]]++lb,V,?_,?_,?_,?_,λ_=>h1,?_⟩
 . grind[run_enterLoop_outer]
 . simp only[resolve,hg];simp[go_sem]
 . intro f' ad;simp[Target.leads]at ad;subst ad;exact ah
 . simp[invoke,go_sem,eg]
 refine(bc (w.heap.size+1)
  (λk W=>I k W/\W.heap[w.heap.size+1]?=some (.loop (rc .ready none))/\W.heap[w.heap.size]?=some (E (some [])))
  (λk W=>∃c,M c k W/\W.heap[w.heap.size+1]?=some (.loop (rc .done (some c)))/\W.heap[w.heap.size]?=some (E (some [])))
  V (λk W h=>ai k W h.1) ?_ ⟨vI,vL,vD⟩).mono ?_
 . rintro k W ⟨A,hl,L⟩ ay;have T:w.heap.size+1<W.heap.size:=(Ab.1 hl).1;have hy:=run_yield (P:=P) (args:=args k) hl (by rw[q];exact az k);rw[q]at hy;obtain⟨u,y⟩:=ex (W.alloc (o k));have S:u.heap[w.heap.size+1]?=some (.loop (rc .ready none)):=by rw[<-y];exact(B7 _ _ _ T).trans hl
   have Qi:u.heap[w.heap.size]?=some (E (some [])):=by rw[<-y];exact(B7 _ _ _ Z).trans L
   have Qg:I k u:=by rw[<-y];exact x.alloc _ A
   have Qf:u.heap[W.heap.size]?=some (o k):=by rw[<-y];exact BV W _
   refine⟨fn,_,assign,body,hy,roundIn_of_wpIn ap (aj _ k W _ ?_)⟩;rw[y];refine⟨_,run_beginRound S (by rw[q]),?_⟩;obtain⟨bx,am⟩:=ex (W.heap.size);rw[am]at Qf T ⊢;have Qc:w.heap.size+1<u.heap.size:=(Ab.1 S).1;obtain⟨m,z⟩:=ex (u.putObj (w.heap.size+1) (.loop { rc .ready none with state:=.busy }));rw[z];have Qh:m.heap[w.heap.size+1]?=some (.loop { rc .ready none with state:=.busy }):=by rw[<-z];exact DE Qc
   have Ql:m.heap[bx]?=some (o k):=by rw[<-z];exact(Bw Z).trans Qf
   have X:m.heap[w.heap.size]?=some (E (some [])):=by rw[<-z];exact(Bw Z).trans Qi
   have Qj:I k m:=by rw[<-z];exact x.putObj _ Qg Z S J
   have Qk:w.heap.size<m.heap.size:=(Ab.1 X).1;have fin:∀(f:Option Code) (d:C),KeepsFrom w.heap.size m d->
    (Instr.endRound (w.heap.size+1) f).run P d=.ok (.bool f.isNone) (d.putObj (w.heap.size+1) (.loop (rc (if f.isNone then .ready else .done) f)))/\
    d.heap[w.heap.size+1]?=some (.loop { rc .ready none with state:=.busy })/\
    (d.putObj (w.heap.size+1) (.loop (rc (if f.isNone then .ready else .done) f))).heap[w.heap.size+1]?=some (.loop (rc (if f.isNone then .ready else .done) f))/\
    (d.putObj (w.heap.size+1) (.loop (rc (if f.isNone then .ready else .done) f))).heap[w.heap.size]?=some (E (some [])):=λf d ae=>by
    have i:=ae.same _ _ Z Qh J;have j:=run_endRound (P:=P) f i;rw[q]at j ⊢;exact⟨j,De,DE (Ab.1 i).1,(Bw Z).trans (ae.same _ _ (Aa _) X J)⟩
   refine wpIn_mono (ak _ k bx m Qj ay Qk T Ql) λe a3 d hp=>?_;cases e with
   |normal=>
    obtain⟨j,i,s,r⟩:=fin none d hp.1;exact⟨_,_,j,.inl ⟨J,x.putObj _ hp.2 Z i J,s,r⟩⟩
   |ret=>
    obtain⟨j,i,s,r⟩:=fin (some .ret) d hp.1;exact⟨_,_,j,.inr ⟨J,.ret,(R _).putObj _ hp.2 Z i J,s,r⟩⟩
   |exit id=>
    obtain⟨j,i,s,r⟩:=fin (some (.exit id)) d hp.1;exact⟨_,_,j,.inr ⟨J,.exit id,(R _).putObj _ hp.2 Z i J,s,r⟩⟩
   |goto t=>
    obtain⟨j,i,s,r⟩:=fin (some (.goto t)) d hp.1;exact⟨_,_,j,.inr ⟨J,.goto t,(R _).putObj _ hp.2 Z i J,s,r⟩⟩
   |panic ch=>exact hp.elim
   |outgrown=>exact hp.elim
 . rintro e m ⟨⟨v,rfl⟩,(⟨A,hl,L⟩|⟨k,aq,c,A,hl,L⟩)⟩
   . exact⟨none,_,by have:=run_endLoop (P:=P) hl (by rw[q];simp);rw[q]at this;exact this,an _ _ (Aa _) (x.putObj _ A Z hl J) ((Bw Z).trans L)⟩
   . exact⟨some c,_,by have:=run_endLoop (P:=P) hl (by rw[q];simp);rw[q]at this;exact this,bd _ c k _ (Aa _) aq ((R c).putObj _ A Z hl J) ((Bw Z).trans L)⟩

