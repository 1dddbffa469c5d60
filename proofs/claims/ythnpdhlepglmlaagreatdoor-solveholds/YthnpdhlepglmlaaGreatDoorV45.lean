import Derived.Test.YthnpdhlepglmlaaGreatDoorV01
import Derived.Below
import Derived.Sort.Grow
import Derived.Deep.Draws
set_option linter.all false
open Go renaming World->B
set_option maxRecDepth 99999
set_option maxHeartbeats 0
namespace Go.Proofs.YthnpdhlepglmlaaGreatDoor
open Go
def BT:=@congrArg
def Lh{α:Type}(n:Nat):Result α->Prop
 |.ok _ w=>n<=w.drawn
 |.halt _ w=>n<=w.drawn
def Lh.mono{α:Type}{m n:Nat}{r:Result α}(h:Lh m r)(hn:n<=m):Lh n r:=by
 cases r with
 |ok a w=>exact Ae hn h
 |halt a w=>exact Ae hn h
variable{l:List Addr}{v:Value}
theorem ug{α:Type}:∀(a:Ask α) (w:B),w.drawn<=(w.ask a).2.drawn:=by
 intro a;induction a with
 |done a=>intro w;exact Aa _
 |ask d c k b=>
  intro w;grind[World.ask]
theorem uh(w:B)(c:Sys):w.drawn<=(w.sys c).2.drawn:=by
 grind[World.sys,ug]
def ui{p:Program}{w w':B}{at_:Addr}{u:TypeId}{k:Addr}{a:Bool}(h:w.viewStore p at_ u k v a=.ok (w',l)):w.drawn<=w'.drawn:=by
 unfold World.viewStore at h;simp only[bind,Except.bind,pure,Except.pure]at h;repeat' split at h
 all_goals first|(cases h;exact Aa _)|cases h
def uj{p:Program}{w w':B}{a:Addr}{b:Bool}(h:w.farStore p a v b=.ok (w',l)):w.drawn<=w'.drawn:=by
 unfold World.farStore at h;repeat' split at h
 all_goals first|(cases h;done)|skip
 all_goals(rename_i e;cases h;exact ui e)
theorem uk(w:B)(a:Addr)(n:Nat):w.drawn<=(w.freeze a n).drawn:=by
 grind[World.freeze]
theorem Pg{α:Type}(p:Program):∀(s:Sem α) (w:B),Lh w.drawn (s.run p w):=by
 intro s;induction s with
 |pure a=>intro w;exact Aa _
 |load m a k b=>
  intro w;simp only[Sem.run];split
  . exact b _ w
  . split
    . exact b _ w
    . exact Aa _
 |store m a v k b=>
  intro w;have key:Lh w.drawn (match w.cell? a with
   |some _=>if w.frozen? a then Result.halt (.unsupported (.unsafePointer "a write to bytes that a string shares")) w else k.run p (w.setCell a v)
   |none=>match w.farStore p a v (m == .atomic)with
   |.ok (w,_)=>k.run p w
   |.error h=>.halt h w):=by
   split
   . split
     . exact Aa _
     . exact b (w.setCell a v)
   . split
     . rename_i w2 _ e;exact(b w2).mono (uj e)
     . exact Aa _
  cases v<;>first|exact key|exact Aa _
 |new o k b=>intro w;exact b _ { w with heap:=w.heap.push o }
 |shape r k b=>intro w;exact b _ w
 |freeze a n k b=>intro w;exact(b (w.freeze a n)).mono (uk w a n)
 |frozen a k b=>intro w;exact b _ w
 |getObj r k b=>
  intro w;simp only[Sem.run];split
  . exact Aa _
  . exact b _ w
  . exact Aa _
 |setObj r o k b=>
  intro w;simp only[Sem.run];split
  . exact Aa _
  . grind
  . exact Aa _
 |choose q k b=>
  intro w;simp only[Sem.run];split
  . exact b _ w
  . exact(b (q.cut (w.tape w.drawn q)) { w with drawn:=w.drawn+1 }).mono (Nat.le_succ _)
 |sys c k b=>
  intro w;exact(b (w.sys c).1 (w.sys c).2).mono (uh w c)
 |program k b=>intro w;exact b _ w
 |mark m k b=>intro w;exact b w
 |halt h=>intro w;exact Aa _
theorem TO{α:Type}(p:Program):∀(s:Sem α) (w:B) (es:Array Event),(s.runT p w es).1=s.run p w:=by
 intro s;induction s<;>intro w es
 case store m a v k b=>
  cases v<;>first|rfl|skip
  all_goals
   grind[Sem.run,Sem.runT]
 all_goals first|rfl|skip
 all_goals(rename_i b;first|exact b _ _|exact b _ _ _|skip)
 all_goals grind[Sem.run,Sem.runT]
def Nt{α:Type}(p:Program)(s:Sem α)(w:B)(es:Array Event):Lh w.drawn (s.runT p w es).1:=by rw[TO];exact Pg p s w
section
variable {α:Type} {p:Program} {s:Sem α} {w w':World} {a:α} {h:Halt} {es es':Array Event}
def GS(e:s.run p w=.ok a w'):w.drawn<=w'.drawn:=by have k:=Pg p s w;rw[e]at k;exact k
def TP(e:s.run p w=.halt h w'):w.drawn<=w'.drawn:=by have k:=Pg p s w;rw[e]at k;exact k
def cO(e:(s.runT p w es).1=.ok a w'):w.drawn<=w'.drawn:=GS (by rw[<-TO p s w es];exact e)
def um(e:(s.runT p w es).1=.halt h w'):w.drawn<=w'.drawn:=TP (by rw[<-TO p s w es];exact e)
def cR(e:s.runT p w es=(.ok a w',es')):w.drawn<=w'.drawn:=cO (es:=es) (by rw[e])
def cT(e:s.runT p w es=(.halt h w',es')):w.drawn<=w'.drawn:=um (es:=es) (by rw[e])
end
def EJ(n:Nat):GStep->Prop
 |.go _ w _=>n<=w.drawn
 |.comm _ _ _ _ w _=>n<=w.drawn
 |.spawn _ _ w _=>n<=w.drawn
 |.count _ w _=>n<=w.drawn
 |.timer _ _ w _=>n<=w.drawn
 |.alone _ _ w _=>n<=w.drawn
 |.newcoro _ _ _ w _=>n<=w.drawn
 |.coroswitch _ _ _ w _=>n<=w.drawn
 |.collect _ w _=>n<=w.drawn
 |.watch _ w _=>n<=w.drawn
 |.ended _ _ _=>True
variable{m n:Nat}
def EJ.mono{r:GStep}(h:EJ m r)(hn:n<=m):EJ n r:=by
 cases r<;>first|exact Ae hn h|exact trivial
def Kz{r:GStep}(es:Array Event)(h:EJ n r):EJ n (r.after es):=by
 cases r<;>exact h
def K0{q:Prop}(h:q:=by
 repeat' first|split|refine Kz _ ?_|dsimp only
 all_goals first|exact Aa _|exact trivial|exact GS (by assumption)|exact cO (by assumption)|exact TP (by assumption)|exact cR (by assumption)|exact cT (by assumption)):q:=h
def uq(n:Nat)(w:B)(a:Nat)(t:ByteArray)(o:Outcome):EJ n (endWith w a t o):=by unfold endWith;exact K0
def cU(p:Program)(fr:Frame)(v:Value)(w:B):EJ w.drawn (endPrinting p fr v w):=by unfold endPrinting;exact K0
def cV(p:Program)(fr:Frame)(cs:List Frame)(d:Option Dying)(m:String)(w:B):EJ w.drawn (endFatal p fr cs d m w):=by unfold endFatal;exact K0
def ur(p:Program)(fr:Frame)(d:Dying)(f:Fatal)(w:B):EJ w.drawn (writeOn p fr d f w):=by unfold writeOn;exact K0
theorem us(p:Program)(fr:Frame)(d:Dying)(w:B):EJ w.drawn (die p fr d w):=by
 unfold die;repeat' first|exact ur ..|exact uq ..|split|refine Kz _ ?_|dsimp only
 all_goals first|exact K0|exact(cU ..).mono (cT (by assumption))
def TQ(p:Program)(a:Bool)(fr:Frame)(cs:List Frame)(d:Option Dying)(v:Value)(w:B):EJ w.drawn (doReturn p a fr cs d v w):=by unfold doReturn;exact K0
def cW(p:Program)(fr:Frame)(cs:List Frame)(d:Option Dying)(g:Nat)(w:B):EJ w.drawn (early p fr cs d g w):=by
 have hn:∀V:B,w.drawn<=V.drawn->EJ w.drawn (match V.heap[g]? with
  |some (.pending c a)=>
  GStep.go { frame:=fr,callers:=cs,status:=.running,dying:=d } { V with heap:=V.heap.setIfInBounds g (.cells c a) }
   |_=>.ended (.stuck "early: the variable does not wait" (fr.pos p)) V):=λV b=>by
  split
  . exact b
  . exact trivial
 unfold early;repeat' first|exact hn w (Aa _)|exact trivial|exact Aa _|exact hn _ (GS (by assumption))|exact GS (by assumption)|split|dsimp only
theorem Ph{c:Prop}[Decidable c]{a b:GStep}(d:EJ n a)(e:EJ n b):EJ n (if c then a else b):=by
 grind
def ut(p:Program)(fr:Frame)(cs:List Frame)(dy:Option Dying)(d:Deferred)(w:B):EJ w.drawn (callDeferred p fr cs dy d w):=by
 unfold callDeferred;refine Ph trivial ?_;have e:=Nt p (invoke d.target d.args) w #[];revert e;generalize (invoke d.target d.args).runT p w #[]=R;intro e;obtain⟨r,es⟩:=R;refine Kz _ ?_;dsimp only at e ⊢;cases r with
 |ok a v=>
  have e:w.drawn<=v.drawn:=e;cases a
  case coroswitch c b=>cases b<;>first|exact e|exact trivial
  case alone b u=>cases b<;>first|exact e|exact trivial
  all_goals((try dsimp only);(repeat' split)<;>first|exact e|exact trivial|skip)
 |halt h v=>
  have e:w.drawn<=v.drawn:=e;cases h<;>(try dsimp only)<;>(repeat' split)<;>first|exact e|exact trivial|exact(cV ..).mono e|exact(show EJ _ (endThrow _ _ _)from e)|skip
theorem uu(p:Program)(a:Bool)(fr:Frame)(cs:List Frame)(dy:Option Dying)(w:B):EJ w.drawn (unwind p a fr cs dy w):=by
 unfold unwind;repeat' first|exact ut ..|exact cU ..|exact TQ ..|split|refine Kz _ ?_|dsimp only
 all_goals first|exact K0|exact(TQ ..).mono (cR (by assumption))
def Nu(p:Program)(c:Bool)(fr:Frame)(cs:List Frame)(dy:Option Dying)(s:Sem Next)(w:B):EJ w.drawn (stepG.apply p c fr cs dy s w):=by
 unfold stepG.apply;have b:Lh w.drawn (if c then s.runT p w #[]else(s.run p w,#[])).1:=by
  split
  . exact Nt ..
  . exact Pg ..
 revert b;dsimp only;generalize (if c then s.runT p w #[]else(s.run p w,#[]))=R;intro b;obtain⟨r,es⟩:=R;refine Kz _ ?_;dsimp only at b ⊢;cases r with
 |ok a v=>
  have b:w.drawn<=v.drawn:=b;cases a<;>(try dsimp only)<;>(repeat' split)<;>first|exact b|exact trivial|exact(show EJ _ (endThrow _ _ _)from b)|skip
 |halt h v=>
  have b:w.drawn<=v.drawn:=b;cases h
  case unsupported u=>cases u<;>first|exact trivial|exact(cW ..).mono b
  all_goals(try dsimp only)<;>(repeat' split)<;>first|exact b|exact trivial|exact(cV ..).mono b|exact(cW ..).mono b|exact(show EJ _ (endThrow _ _ _)from b)|skip
def uv(p:Program)(a:Bool)(fr:Frame)(cs:List Frame)(dy:Option Dying)(w:B):EJ w.drawn (stepG.oper p a fr cs dy w):=by
 unfold stepG.oper;repeat' first|exact Nu ..|split
 all_goals exact trivial
def uw(p:Program)(d:Bool)(fr:Frame)(cs:List Frame)(dy:Option Dying)(w:B)(l:Nat)(c:Option Code):
 EJ w.drawn (match (Instr.endRound l c).runT p w #[]with
  |(r,es)=>GStep.after (seen p fr.fn es) <| match r with
  |.ok v w=>doReturn p d fr cs dy v w
  |.halt _ w=>.ended (.stuck "range over a function: no such loop" (fr.pos p)) w):=by
 have b:=Nt p (Instr.endRound l c) w #[];revert b;generalize (Instr.endRound l c).runT p w #[]=R;intro b;obtain⟨r,es⟩:=R;refine Kz _ ?_;cases r with
 |ok a v=>exact(TQ ..).mono b
 |halt h v=>exact trivial
theorem ux(p:Program)(d i:Bool)(fr:Frame)(cs:List Frame)(dy:Option Dying)(w:B):EJ w.drawn (stepG.exec p d i fr cs dy w):=by
 have hl:∀c:Option Code,EJ w.drawn (match fr.roundOf with
  |none=>if c matches none|some .ret then GStep.go { frame:={ fr with mode:=.returning },callers:=cs,status:=.running,dying:=dy } w else .ended (.stuck "exit, goto: no such block or label" (fr.pos p)) w
  |some l=>
  let (r,es):=(Instr.endRound l c).runT p w #[]
  GStep.after (seen p fr.fn es) <| match r with
   |.ok v w=>doReturn p d fr cs dy v w
   |.halt _ w=>.ended (.stuck "range over a function: no such loop" (fr.pos p)) w):=λc=>by
  cases fr.roundOf with
  |none=>exact Ph (Aa _) trivial
  |some l=>exact uw p d fr cs dy w l c
 unfold stepG.exec;dsimp only;split
 . exact hl none
 . exact hl (some .ret)
 . exact Aa _
 . exact Aa _
 . exact Aa _
 . exact Aa _
 . exact Aa _
 . split
   . exact Aa _
   . exact trivial
 . exact Aa _
 . exact Aa _
 . exact Aa _
 . exact Aa _
 . rename_i id k _;cases exitTo id k with
   |none=>exact hl (some (.exit id))
   |some g=>exact Aa _
 . rename_i id k _;cases gotoIn id k with
   |none=>exact hl (some (.goto id))
   |some g=>exact Aa _
 . rename_i f params assign body k _;have b:=Nt p (Instr.enterLoop fr.fn fr.tmps params assign body fr.roundOf) w #[];revert b;generalize (Instr.enterLoop fr.fn fr.tmps params assign body fr.roundOf).runT p w #[]=R;intro b;obtain⟨r,es⟩:=R;refine Kz _ ?_;cases r with
   |ok a v=>exact(Nu ..).mono b
   |halt h v=>exact trivial
 . exact trivial
 . exact Nu ..
 . rename_i l k _;have b:=Nt p (Instr.endLoop l) w #[];revert b;generalize (Instr.endLoop l).runT p w #[]=R;intro b;obtain⟨r,es⟩:=R;refine Kz _ ?_;cases r with
   |ok a v=>exact b
   |halt h v=>cases h<;>first|exact b|exact trivial
 . exact trivial
 . exact Nu ..
 . rename_i row args _ _;cases Extern.next row with
   |none=>exact trivial
   |some e=>exact Nu ..
 . refine Ph (Aa _) ?_;split
   . rename_i e;exact GS e
   . exact trivial
 . exact Aa _
 . exact Ph (uv ..) (Aa _)
theorem uy(p:Program)(b a:Bool)(g:Goroutine)(w:B):EJ w.drawn (stepG p b g w a):=by
 unfold stepG;grind[us,ux,uu]
def I3(n:Nat):Stepped->Prop
 |.next m=>n<=m.world.drawn
 |.ended _ _=>True
def I3.mono{r:Stepped}(h:I3 m r)(hn:n<=m):I3 n r:=by
 cases r<;>first|exact Ae hn h|exact trivial
theorem uz{rest:Rest}{cases:Array CommCase}{w w':B}(h:waitingAt rest cases w=some w'):w'.drawn=w.drawn:=by
 grind[waitingAt]
def vB(p:Program)(rest:Rest)(d:Array Goroutine)(i:Nat)(g:Goroutine)(cases:Array CommCase)(c:Bool)(j:CommShape)(w:B):I3 w.drawn (communicate p rest d i g cases c j w).1:=by
 unfold communicate;dsimp only;split
 . exact trivial
 . split
   . split
     . split
       . rename_i e;exact Nat.le_of_eq (uz e).symm
       . exact trivial
     . exact Aa _
   . split
     . exact trivial
     . rename_i e;have a:=GS e;split
       . split
         . rename_i b;exact Ae a (TP b)
         . exact trivial
       . exact a
       . exact a
       . split
         . exact a
         . split
           . rename_i b;have f:=GS b;exact Ae a f
           . exact trivial
       . exact a
       . exact a
       . exact trivial
def cX(p:Program)(a:Array Goroutine)(rest:Rest)(w:B):I3 w.drawn (look p a rest w):=by
 unfold look;split
 . dsimp only;split
   . exact trivial
   . split
     . exact trivial
     . split
       . rename_i e;have h:=GS e;exact h
       . exact trivial
       . exact trivial
 . exact trivial
theorem vC(m:Machine)(k:Nat)(t:Timer)(a b:Nat):(retime m k t a b).2.world.drawn=m.world.drawn:=by
 grind[retime,drain]
def vE{m c:Machine}{op:TimerOp}{v:Value}(h:timerOp m op=.ok (v,c)):c.world.drawn=m.world.drawn:=by
 have hn:∀ {M:Machine} {d:Addr} {a b:Timer->Nat},timerOp.named m d (λk t=>retime M k t (a t) (b t))=.ok (v,c)->M.world.drawn=m.world.drawn->c.world.drawn=m.world.drawn:=fun {M d a b} h hM=>by
  unfold timerOp.named at h;split at h
  . have:=BT (λr:Except _ (Value × Machine)=>match r with|.ok x=>x.2|.error _=>c) h;dsimp only at this;rw[<-this,vC];exact hM
  . cases h
 cases op with
 |new t=>
  unfold timerOp at h;dsimp only at h;repeat' split at h
  all_goals first|(cases h;rfl)|cases h
 |stop d=>
  exact hn (a:=λ_=>0) (b:=λt=>t.period) h J
 |reset d f g=>
  unfold timerOp at h;dsimp only at h;split at h
  . rename_i M e;refine hn (M:=M) (a:=λ_=>f) (b:=λ_=>g) h ?_;unfold timerOp.opened at e;repeat' split at e
    all_goals first|(cases e;rfl)|cases e
  . cases h
 |deadline i j l f=>
  unfold timerOp at h;cases h;rfl
def vF(p:Program)(m:Machine)(k:Nat):I3 m.world.drawn (serve p m k):=by
 unfold serve;exact K0
def vG(p:Program)(m:Machine)(i:Nat)(a:Bool):I3 m.world.drawn (runT p m i a).1:=by
 unfold runT;dsimp only;have hs:=uy p (i==0) a (m.gs.swapAt! i { (default:Goroutine)with status:=.finished }).1 m.world;revert hs;generalize stepG p (i==0) (m.gs.swapAt! i { (default:Goroutine)with status:=.finished }).1 m.world a=S;intro hs;cases S with
 |go g w es=>exact hs
 |comm g c b j w es=>exact(vB ..).mono hs
 |spawn g c w es=>exact hs
 |count g w es=>
  dsimp only;split
  . exact trivial
  . exact hs
 |timer g op w es=>
  have hs:m.world.drawn<=w.drawn:=hs;dsimp only;split
  . rename_i e;have h:=vE e;exact Ae hs (Nat.le_of_eq h.symm)
  . unfold endThrow dieOf;exact hs
  . exact trivial
  . exact trivial
 |alone g f w es=>exact hs
 |newcoro g c d w es=>exact hs
 |coroswitch g c ex w es=>
  dsimp only;split
  . exact hs
  . unfold endThrow dieOf;exact hs
  . exact trivial
 |collect g w es=>exact(cX ..).mono hs
 |watch g w es=>exact hs
 |ended o w es=>exact trivial
def Li(n:Nat):Move->Prop
 |.goroutine m _=>n<=m.world.drawn
 |.machine s _=>I3 n s
def Li.mono{m n:Nat}{r:Move}(h:Li m r)(hn:n<=m):Li n r:=by
 cases r with
 |goroutine m i=>exact Ae hn h
 |machine s o=>exact I3.mono h hn
def TR(p:Program)(m:Machine)(rs:m0):Li m.world.drawn (match (choose (.sched rs.length)).run p m.world with
 |.halt _ w=>Move.machine (.ended (.stuck "sched" "") w)
 |.ok k wd=>
 if rs.length<=1 then .goroutine { m with world:=wd } (rs.getD k 0)else
 match (choose (.extern "sched.slice" 65536)).run p wd with
  |.halt _ w=>.machine (.ended (.stuck "sched.slice" "") w)
  |.ok n wd=>.goroutine { m with world:=wd,rest:={ m.rest with slice:=if n=0 then none else some (rs.getD k 0,n) } } (rs.getD k 0)):=by
 split
 . exact trivial
 . rename_i e;have a:=GS e;split
   . exact a
   . split
     . exact trivial
     . rename_i b;have c:=GS b;exact Ae a c
def TS(p:Program)(m:Machine):Li m.world.drawn (askOn p m):=by
 unfold askOn;dsimp only;split
 . exact trivial
 . rename_i wd e;have a:=GS e;split
   . exact(vF p { m with world:=wd } _).mono a
   . split
     . split
       . exact a
       . split
         . exact a
         . split
           . exact trivial
           . exact trivial
     . split
       . exact(TR p { m with world:=wd } _).mono a
       . split
         . exact trivial
         . rename_i W b;have c:=GS b;exact(TR p { m with world:=W } _).mono (Ae a c)
         . rename_i b;have c:=GS b;exact Ae a c
         . rename_i W b;have c:=GS b;exact(TR p ({ m with world:=W }.advanceTo _) _).mono (Ae a c)
def cY(p:Program)(m:Machine):Li m.world.drawn (ask p m):=by
 unfold ask;split
 . split
   . exact trivial
   . rename_i wd e;have a:=GS e;have b:=cX p m.gs m.rest wd;revert b;cases look p m.gs m.rest wd with
     |next M=>intro b;exact(TS p M).mono (Ae a b)
     |ended o w=>intro _;exact trivial
   . rename_i wd _ e;have a:=GS e;exact(TS p { m with world:=wd }).mono a
 . exact TS ..
def vH(p:Program)(m:Machine):Li m.world.drawn (move p m):=by
 unfold move;split
 . split
   . exact Aa _
   . exact trivial
 . split
   . split
     . exact Aa _
     . exact cY p { m with rest:={ m.rest with slice:=none } }
   . exact cY ..
def vJ{p:Program}{m b:Machine}(h:step p m=.next b):m.world.drawn<=b.world.drawn:=by
 unfold step stepT at h;have a:=vH p m;revert h a;cases move p m with
 |goroutine M i=>
  intro h a;have c:=vG p M i true;rw[show(runT p M i true).1=.next b from h]at c;exact Ae a c
 |machine s o=>
  intro h a;have a:I3 m.world.drawn s:=a;rw[show s=.next b from h]at a;exact a
theorem cZ{p:Program}{m a:Machine}(h:Steps p m a):m.world.drawn<=a.world.drawn:=by
 obtain⟨n,hn⟩:=h;induction n generalizing m with
 |zero=>simp[runN]at hn;grind
 |succ n b=>
  simp only[runN]at hn;cases hs:step p m with
  |next c=>rw[hs]at hn;exact Ae (vJ hs) (b hn)
  |ended o w=>grind
def vK{P:Program}{f:FuncId}{args:Array Value}{w:B}{R:Ending->B->Prop}(h:Calls P f args w R)(hn:∀w',¬R .outgrown w'):Calls P f args w λe w'=>R e w'/\w.drawn<=w'.drawn:=by
 intro cs;obtain⟨e,w',fr,b,a,d⟩:=h cs;refine⟨e,w',fr,⟨b,?_⟩,a,d⟩;cases e with
 |returned v=>exact cZ a
 |panicked c=>exact cZ a
 |outgrown=>exact absurd b (hn w')
theorem grown_of{W V:B}(h:RowKit.Below W.heap.size W V)(a:W.drawn<=V.drawn):∃q os,V=Sort.grow (W.drewN q) os:=by
 refine⟨V.drawn-W.drawn,V.heap.extract W.heap.size V.heap.size,?_⟩;have hh:V.heap=W.heap++V.heap.extract W.heap.size V.heap.size:=by
  refine Array.ext_getElem? λi=>?_;rw[Array.getElem?_append];split
  . rename_i hi;exact h.block i hi
  . grind
 cases V with
 |mk heap tape b os output=>
  have c:os=W.os:=h.os;have d:tape=W.tape:=h.tape;have e:output=W.output:=h.output;subst c d e;have a:W.drawn<=b:=a;unfold Sort.grow World.drewN;congr 1;grind
