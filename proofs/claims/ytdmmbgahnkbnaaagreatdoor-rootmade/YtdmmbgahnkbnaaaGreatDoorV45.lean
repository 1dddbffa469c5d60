import Derived.Test.YtdmmbgahnkbnaaaGreatDoorV00
import Derived.Calls
import Derived.Below
import Derived.Sort.Grow
import Derived.Deep.Draws
set_option linter.all false
open Go renaming World->B
set_option maxRecDepth 99999
set_option maxHeartbeats 0
namespace Go.Proofs.YtdmmbgahnkbnaaaGreatDoor
open Go
def BU:type_of% @congrArg:=@congrArg
def K9{α:Type}(n:Nat):Result α->Prop
 |.ok _ w=>n<=w.drawn
 |.halt _ w=>n<=w.drawn
def K9.mono{α:Type}{m n:Nat}{r:Result α}(h:K9 m r)(hn:n<=m):K9 n r:=by
 cases r with
 |ok a w=>exact Ac hn h
 |halt a w=>exact Ac hn h
variable{l:List Addr}{v:Value}
def tJ{α:Type}:∀(a:Ask α) (w:B),w.drawn<=(w.ask a).2.drawn:=by
 intro a;induction a with
 |done a=>intro w;exact Aa _
 |ask d c k b=>
  intro w;simp only[World.ask];split
  . exact b _ w
  . exact Ac (Nat.le_succ _) (b _ { w with drawn:=w.drawn+1 })
def tK(w:B)(c:Sys):w.drawn<=(w.sys c).2.drawn:=by
 unfold World.sys;have h:=tJ (Kernel.perform c w.os) w;revert h;cases w.ask (Kernel.perform c w.os)with
 |mk a v=>
  intro h;obtain⟨r,os⟩:=a;cases r<;>first|exact Aa _|exact h
def tL{p:Program}{w w':B}{at_:Addr}{u:TypeId}{k:Addr}{a:Bool}(h:w.viewStore p at_ u k v a=.ok (w',l)):w.drawn<=w'.drawn:=by
 unfold World.viewStore at h;simp only[bind,Except.bind,pure,Except.pure]at h;repeat' split at h
 all_goals first|(cases h;exact Aa _)|cases h
def tM{p:Program}{w w':B}{a:Addr}{b:Bool}(h:w.farStore p a v b=.ok (w',l)):w.drawn<=w'.drawn:=by
 unfold World.farStore at h;repeat' split at h
 all_goals first|(cases h;done)|skip
 all_goals(rename_i e;cases h;exact tL e)
def tN(w:B)(a:Addr)(n:Nat):w.drawn<=(w.freeze a n).drawn:=by
 unfold World.freeze;repeat' split
 all_goals exact Aa _
def Ot{α:Type}(p:Program):∀(s:Sem α) (w:B),K9 w.drawn (s.run p w):=by
 intro s;induction s with
 |pure a=>intro w;exact Aa _
 |load m a k b=>
  intro w;simp only[Sem.run];split
  . exact b _ w
  . split
    . exact b _ w
    . exact Aa _
 |store m a v k b=>
  intro w;have d:K9 w.drawn (match w.cell? a with
   |some _=>if w.frozen? a then Result.halt (.unsupported (.unsafePointer "a write to bytes that a string shares")) w else k.run p (w.setCell a v)
   |none=>match w.farStore p a v (m == .atomic)with
   |.ok (w,_)=>k.run p w
   |.error h=>.halt h w):=by
   split
   . split
     . exact Aa _
     . exact b (w.setCell a v)
   . split
     . rename_i w2 _ e;exact(b w2).mono (tM e)
     . exact Aa _
  cases v<;>first|exact d|exact Aa _
 |new o k b=>intro w;exact b _ { w with heap:=w.heap.push o }
 |shape r k b=>intro w;exact b _ w
 |freeze a n k b=>intro w;exact(b (w.freeze a n)).mono (tN w a n)
 |frozen a k b=>intro w;exact b _ w
 |getObj r k b=>
  intro w;simp only[Sem.run];split
  . exact Aa _
  . exact b _ w
  . exact Aa _
 |setObj r o k b=>
  intro w;simp only[Sem.run];split
  . exact Aa _
  . exact b { w with heap:=w.heap.setIfInBounds r o }
  . exact Aa _
 |choose q k b=>
  intro w;simp only[Sem.run];split
  . exact b _ w
  . exact(b (q.cut (w.tape w.drawn q)) { w with drawn:=w.drawn+1 }).mono (Nat.le_succ _)
 |sys c k b=>
  intro w;exact(b (w.sys c).1 (w.sys c).2).mono (tK w c)
 |program k b=>intro w;exact b _ w
 |mark m k b=>intro w;exact b w
 |halt h=>intro w;exact Aa _
def SJ{α:Type}(p:Program):∀(s:Sem α) (w:B) (es:Array Event),(s.runT p w es).1=s.run p w:=by
 intro s;induction s<;>intro w es
 case store m a v k b=>
  cases v<;>first|rfl|skip
  all_goals
   simp only[Sem.run,Sem.runT];repeat' split
   all_goals first|rfl|exact b _ _
 all_goals first|rfl|skip
 all_goals(rename_i b;first|exact b _ _|exact b _ _ _|skip)
 all_goals(rename_i b;simp only[Sem.run,Sem.runT];(repeat' split)<;>first|rfl|exact b _ _|exact b _ _ _)
def Mz{α:Type}(p:Program)(s:Sem α)(w:B)(es:Array Event):K9 w.drawn (s.runT p w es).1:=by rw[SJ];exact Ot p s w
section
variable {α:Type} {p:Program} {s:Sem α} {w w':World} {a:α} {h:Halt} {es es':Array Event}
def F3(e:s.run p w=.ok a w'):w.drawn<=w'.drawn:=by have k:=Ot p s w;rw[e]at k;exact k
def SK(e:s.run p w=.halt h w'):w.drawn<=w'.drawn:=by have k:=Ot p s w;rw[e]at k;exact k
def aQ(e:(s.runT p w es).1=.ok a w'):w.drawn<=w'.drawn:=F3 (by rw[<-SJ p s w es];exact e)
def tO(e:(s.runT p w es).1=.halt h w'):w.drawn<=w'.drawn:=SK (by rw[<-SJ p s w es];exact e)
def aS(e:s.runT p w es=(.ok a w',es')):w.drawn<=w'.drawn:=aQ (es:=es) (by rw[e])
def aT(e:s.runT p w es=(.halt h w',es')):w.drawn<=w'.drawn:=tO (es:=es) (by rw[e])
end
def EJ(n:Nat):GStep->Prop
 |.go _ w _=>n<=w.drawn
 |.comm _ _ _ _ w _=>n<=w.drawn
 |.spawn _ _ w _=>n<=w.drawn
 |.count _ w _=>n<=w.drawn
 |.timer _ _ w _=>n<=w.drawn
 |.alone _ _ w _=>n<=w.drawn
 |.newcoro _ _ _ w _=>n<=w.drawn
 |.coroswitch _ _ _ w _=>n<=w.drawn
 |.collect _ w _=>n<=w.drawn
 |.watch _ w _=>n<=w.drawn
 |.ended _ _ _=>True
variable{m n:Nat}
def EJ.mono{r:GStep}(h:EJ m r)(hn:n<=m):EJ n r:=by
 cases r<;>first|exact Ac hn h|exact trivial
def KR{r:GStep}(es:Array Event)(h:EJ n r):EJ n (r.after es):=by
 cases r<;>exact h
def KS{q:Prop}(h:q:=by
 repeat' first|split|refine KR _ ?_|dsimp only
 all_goals first|exact Aa _|exact trivial|exact F3 (by assumption)|exact aQ (by assumption)|exact SK (by assumption)|exact aS (by assumption)|exact aT (by assumption)):q:=h
def tP(n:Nat)(w:B)(a:Nat)(t:ByteArray)(o:Outcome):EJ n (endWith w a t o):=by unfold endWith;exact KS
def aU(p:Program)(fr:Frame)(v:Value)(w:B):EJ w.drawn (endPrinting p fr v w):=by unfold endPrinting;exact KS
def aV(p:Program)(fr:Frame)(cs:List Frame)(d:Option Dying)(m:String)(w:B):EJ w.drawn (endFatal p fr cs d m w):=by unfold endFatal;exact KS
def tQ(p:Program)(fr:Frame)(d:Dying)(f:Fatal)(w:B):EJ w.drawn (writeOn p fr d f w):=by unfold writeOn;exact KS
def tS(p:Program)(fr:Frame)(d:Dying)(w:B):EJ w.drawn (die p fr d w):=by
 unfold die;repeat' first|exact tQ ..|exact tP ..|split|refine KR _ ?_|dsimp only
 all_goals first|exact KS|exact(aU ..).mono (aT (by assumption))
def SL(p:Program)(a:Bool)(fr:Frame)(cs:List Frame)(d:Option Dying)(v:Value)(w:B):EJ w.drawn (doReturn p a fr cs d v w):=by unfold doReturn;exact KS
def aW(p:Program)(fr:Frame)(cs:List Frame)(d:Option Dying)(g:Nat)(w:B):EJ w.drawn (early p fr cs d g w):=by
 have hn:∀V:B,w.drawn<=V.drawn->EJ w.drawn (match V.heap[g]? with
  |some (.pending c a)=>
  GStep.go { frame:=fr,callers:=cs,status:=.running,dying:=d } { V with heap:=V.heap.setIfInBounds g (.cells c a) }
   |_=>.ended (.stuck "early: the variable does not wait" (fr.pos p)) V):=λV b=>by
  split
  . exact b
  . exact trivial
 unfold early;repeat' first|exact hn w (Aa _)|exact trivial|exact Aa _|exact hn _ (F3 (by assumption))|exact F3 (by assumption)|split|dsimp only
def Ou{c:Prop}[Decidable c]{a b:GStep}(d:EJ n a)(e:EJ n b):EJ n (if c then a else b):=by
 split
 . exact d
 . exact e
def tT(p:Program)(fr:Frame)(cs:List Frame)(dy:Option Dying)(d:Deferred)(w:B):EJ w.drawn (callDeferred p fr cs dy d w):=by
 unfold callDeferred;refine Ou trivial ?_;have e:=Mz p (invoke d.target d.args) w #[];revert e;generalize (invoke d.target d.args).runT p w #[]=R;intro e;obtain⟨r,es⟩:=R;refine KR _ ?_;dsimp only at e ⊢;cases r with
 |ok a v=>
  have e:w.drawn<=v.drawn:=e;cases a
  case coroswitch c b=>cases b<;>first|exact e|exact trivial
  case alone b u=>cases b<;>first|exact e|exact trivial
  all_goals((try dsimp only);(repeat' split)<;>first|exact e|exact trivial|skip)
 |halt h v=>
  have e:w.drawn<=v.drawn:=e;cases h<;>(try dsimp only)<;>(repeat' split)<;>first|exact e|exact trivial|exact(aV ..).mono e|exact(show EJ _ (endThrow _ _ _)from e)|skip
def tU(p:Program)(a:Bool)(fr:Frame)(cs:List Frame)(dy:Option Dying)(w:B):EJ w.drawn (unwind p a fr cs dy w):=by
 unfold unwind;repeat' first|exact tT ..|exact aU ..|exact SL ..|split|refine KR _ ?_|dsimp only
 all_goals first|exact KS|exact(SL ..).mono (aS (by assumption))
def NA(p:Program)(c:Bool)(fr:Frame)(cs:List Frame)(dy:Option Dying)(s:Sem Next)(w:B):EJ w.drawn (stepG.apply p c fr cs dy s w):=by
 unfold stepG.apply;have b:K9 w.drawn (if c then s.runT p w #[]else(s.run p w,#[])).1:=by
  split
  . exact Mz ..
  . exact Ot ..
 revert b;dsimp only;generalize (if c then s.runT p w #[]else(s.run p w,#[]))=R;intro b;obtain⟨r,es⟩:=R;refine KR _ ?_;dsimp only at b ⊢;cases r with
 |ok a v=>
  have b:w.drawn<=v.drawn:=b;cases a<;>(try dsimp only)<;>(repeat' split)<;>first|exact b|exact trivial|exact(show EJ _ (endThrow _ _ _)from b)|skip
 |halt h v=>
  have b:w.drawn<=v.drawn:=b;cases h
  case unsupported u=>cases u<;>first|exact trivial|exact(aW ..).mono b
  all_goals(try dsimp only)<;>(repeat' split)<;>first|exact b|exact trivial|exact(aV ..).mono b|exact(aW ..).mono b|exact(show EJ _ (endThrow _ _ _)from b)|skip
def tV(p:Program)(a:Bool)(fr:Frame)(cs:List Frame)(dy:Option Dying)(w:B):EJ w.drawn (stepG.oper p a fr cs dy w):=by
 unfold stepG.oper;repeat' first|exact NA ..|split
 all_goals exact trivial
def tW(p:Program)(d:Bool)(fr:Frame)(cs:List Frame)(dy:Option Dying)(w:B)(l:Nat)(c:Option Code):
 EJ w.drawn (match (Instr.endRound l c).runT p w #[]with
  |(r,es)=>GStep.after (seen p fr.fn es) <| match r with
  |.ok v w=>doReturn p d fr cs dy v w
  |.halt _ w=>.ended (.stuck "range over a function: no such loop" (fr.pos p)) w):=by
 have b:=Mz p (Instr.endRound l c) w #[];revert b;generalize (Instr.endRound l c).runT p w #[]=R;intro b;obtain⟨r,es⟩:=R;refine KR _ ?_;cases r with
 |ok a v=>exact(SL ..).mono b
 |halt h v=>exact trivial
def tX(p:Program)(d i:Bool)(fr:Frame)(cs:List Frame)(dy:Option Dying)(w:B):EJ w.drawn (stepG.exec p d i fr cs dy w):=by
 have hl:∀c:Option Code,EJ w.drawn (match fr.roundOf with
  |none=>if c matches none|some .ret then GStep.go { frame:={ fr with mode:=.returning },callers:=cs,status:=.running,dying:=dy } w else .ended (.stuck "exit, goto: no such block or label" (fr.pos p)) w
  |some l=>
  let (r,es):=(Instr.endRound l c).runT p w #[]
  GStep.after (seen p fr.fn es) <| match r with
   |.ok v w=>doReturn p d fr cs dy v w
   |.halt _ w=>.ended (.stuck "range over a function: no such loop" (fr.pos p)) w):=λc=>by
  cases fr.roundOf with
  |none=>exact Ou (Aa _) trivial
  |some l=>exact tW p d fr cs dy w l c
 unfold stepG.exec;dsimp only;split
 . exact hl none
 . exact hl (some .ret)
 . exact Aa _
 . exact Aa _
 . exact Aa _
 . exact Aa _
 . exact Aa _
 . split
   . exact Aa _
   . exact trivial
 . exact Aa _
 . exact Aa _
 . exact Aa _
 . exact Aa _
 . rename_i id k _;cases exitTo id k with
   |none=>exact hl (some (.exit id))
   |some g=>exact Aa _
 . rename_i id k _;cases gotoIn id k with
   |none=>exact hl (some (.goto id))
   |some g=>exact Aa _
 . rename_i f params assign body k _;have b:=Mz p (Instr.enterLoop fr.fn fr.tmps params assign body fr.roundOf) w #[];revert b;generalize (Instr.enterLoop fr.fn fr.tmps params assign body fr.roundOf).runT p w #[]=R;intro b;obtain⟨r,es⟩:=R;refine KR _ ?_;cases r with
   |ok a v=>exact(NA ..).mono b
   |halt h v=>exact trivial
 . exact trivial
 . exact NA ..
 . rename_i l k _;have b:=Mz p (Instr.endLoop l) w #[];revert b;generalize (Instr.endLoop l).runT p w #[]=R;intro b;obtain⟨r,es⟩:=R;refine KR _ ?_;cases r with
   |ok a v=>exact b
   |halt h v=>cases h<;>first|exact b|exact trivial
 . exact trivial
 . exact NA ..
 . rename_i row args _ _;cases Extern.next row with
   |none=>exact trivial
   |some e=>exact NA ..
 . refine Ou (Aa _) ?_;split
   . rename_i e;exact F3 e
   . exact trivial
 . exact Aa _
 . exact Ou (tV ..) (Aa _)
def tY(p:Program)(b a:Bool)(g:Goroutine)(w:B):EJ w.drawn (stepG p b g w a):=by
 unfold stepG;dsimp only;split
 . exact tS ..
 . exact tX ..
 . exact tU ..
def IK(n:Nat):Stepped->Prop
 |.next m=>n<=m.world.drawn
 |.ended _ _=>True
def IK.mono{r:Stepped}(h:IK m r)(hn:n<=m):IK n r:=by
 cases r<;>first|exact Ac hn h|exact trivial
def tZ{rest:Rest}{cases:Array CommCase}{w w':B}(h:waitingAt rest cases w=some w'):w'.drawn=w.drawn:=by
 unfold waitingAt at h;repeat' split at h
 all_goals first|(cases h;rfl)|cases h
def th(p:Program)(rest:Rest)(d:Array Goroutine)(i:Nat)(g:Goroutine)(cases:Array CommCase)(c:Bool)(j:CommShape)(w:B):IK w.drawn (communicate p rest d i g cases c j w).1:=by
 unfold communicate;dsimp only;split
 . exact trivial
 . split
   . split
     . split
       . rename_i e;exact Nat.le_of_eq (tZ e).symm
       . exact trivial
     . exact Aa _
   . split
     . exact trivial
     . rename_i e;have a:=F3 e;split
       . split
         . rename_i b;exact Ac a (SK b)
         . exact trivial
       . exact a
       . exact a
       . split
         . exact a
         . split
           . rename_i b;have f:=F3 b;exact Ac a f
           . exact trivial
       . exact a
       . exact a
       . exact trivial
def aX(p:Program)(a:Array Goroutine)(rest:Rest)(w:B):IK w.drawn (look p a rest w):=by
 unfold look;split
 . dsimp only;split
   . exact trivial
   . split
     . exact trivial
     . split
       . rename_i e;have h:=F3 e;exact h
       . exact trivial
       . exact trivial
 . exact trivial
def tl(m:Machine)(k:Nat)(t:Timer)(a b:Nat):(retime m k t a b).2.world.drawn=m.world.drawn:=by
 unfold retime;cases t.chan with
 |none=>rfl
 |some c=>
  unfold drain;dsimp only;split<;>rfl
def tt{m c:Machine}{op:TimerOp}{v:Value}(h:timerOp m op=.ok (v,c)):c.world.drawn=m.world.drawn:=by
 have hn:∀ {M:Machine} {d:Addr} {a b:Timer->Nat},timerOp.named m d (λk t=>retime M k t (a t) (b t))=.ok (v,c)->M.world.drawn=m.world.drawn->c.world.drawn=m.world.drawn:=fun {M d a b} h hM=>by
  unfold timerOp.named at h;split at h
  . have:=BU (λr:Except _ (Value × Machine)=>match r with|.ok x=>x.2|.error _=>c) h;dsimp only at this;rw[<-this,tl];exact hM
  . cases h
 cases op with
 |new t=>
  unfold timerOp at h;dsimp only at h;repeat' split at h
  all_goals first|(cases h;rfl)|cases h
 |stop d=>
  exact hn (a:=λ_=>0) (b:=λt=>t.period) h rfl
 |reset d f g=>
  unfold timerOp at h;dsimp only at h;split at h
  . rename_i M e;refine hn (M:=M) (a:=λ_=>f) (b:=λ_=>g) h ?_;unfold timerOp.opened at e;repeat' split at e
    all_goals first|(cases e;rfl)|cases e
  . cases h
 |deadline i j l f=>
  unfold timerOp at h;cases h;rfl
def tu(p:Program)(m:Machine)(k:Nat):IK m.world.drawn (serve p m k):=by
 unfold serve;exact KS
def tx(p:Program)(m:Machine)(i:Nat)(a:Bool):IK m.world.drawn (runT p m i a).1:=by
 unfold runT;dsimp only;have hs:=tY p (i==0) a (m.gs.swapAt! i { (default:Goroutine)with status:=.finished }).1 m.world;revert hs;generalize stepG p (i==0) (m.gs.swapAt! i { (default:Goroutine)with status:=.finished }).1 m.world a=S;intro hs;cases S with
 |go g w es=>exact hs
 |comm g c b j w es=>exact(th ..).mono hs
 |spawn g c w es=>exact hs
 |count g w es=>
  dsimp only;split
  . exact trivial
  . exact hs
 |timer g op w es=>
  have hs:m.world.drawn<=w.drawn:=hs;dsimp only;split
  . rename_i e;have h:=tt e;exact Ac hs (Nat.le_of_eq h.symm)
  . unfold endThrow dieOf;exact hs
  . exact trivial
  . exact trivial
 |alone g f w es=>exact hs
 |newcoro g c d w es=>exact hs
 |coroswitch g c ex w es=>
  dsimp only;split
  . exact hs
  . unfold endThrow dieOf;exact hs
  . exact trivial
 |collect g w es=>exact(aX ..).mono hs
 |watch g w es=>exact hs
 |ended o w es=>exact trivial
def LA(n:Nat):Move->Prop
 |.goroutine m _=>n<=m.world.drawn
 |.machine s _=>IK n s
def LA.mono{m n:Nat}{r:Move}(h:LA m r)(hn:n<=m):LA n r:=by
 cases r with
 |goroutine m i=>exact Ac hn h
 |machine s o=>exact IK.mono h hn
def SM(p:Program)(m:Machine)(rs:List Nat):LA m.world.drawn (match (choose (.sched rs.length)).run p m.world with
 |.halt _ w=>Move.machine (.ended (.stuck "sched" "") w)
 |.ok k wd=>
 if rs.length<=1 then .goroutine { m with world:=wd } (rs.getD k 0)else
 match (choose (.extern "sched.slice" 65536)).run p wd with
  |.halt _ w=>.machine (.ended (.stuck "sched.slice" "") w)
  |.ok n wd=>.goroutine { m with world:=wd,rest:={ m.rest with slice:=if n=0 then none else some (rs.getD k 0,n) } } (rs.getD k 0)):=by
 split
 . exact trivial
 . rename_i e;have a:=F3 e;split
   . exact a
   . split
     . exact trivial
     . rename_i b;have c:=F3 b;exact Ac a c
def SN(p:Program)(m:Machine):LA m.world.drawn (askOn p m):=by
 unfold askOn;dsimp only;split
 . exact trivial
 . rename_i wd e;have a:=F3 e;split
   . exact(tu p { m with world:=wd } _).mono a
   . split
     . split
       . exact a
       . split
         . exact a
         . split
           . exact trivial
           . exact trivial
     . split
       . exact(SM p { m with world:=wd } _).mono a
       . split
         . exact trivial
         . rename_i W b;have c:=F3 b;exact(SM p { m with world:=W } _).mono (Ac a c)
         . rename_i b;have c:=F3 b;exact Ac a c
         . rename_i W b;have c:=F3 b;exact(SM p ({ m with world:=W }.advanceTo _) _).mono (Ac a c)
def aY(p:Program)(m:Machine):LA m.world.drawn (ask p m):=by
 unfold ask;split
 . split
   . exact trivial
   . rename_i wd e;have a:=F3 e;have b:=aX p m.gs m.rest wd;revert b;cases look p m.gs m.rest wd with
     |next M=>intro b;exact(SN p M).mono (Ac a b)
     |ended o w=>intro _;exact trivial
   . rename_i wd _ e;have a:=F3 e;exact(SN p { m with world:=wd }).mono a
 . exact SN ..
def uC(p:Program)(m:Machine):LA m.world.drawn (move p m):=by
 unfold move;split
 . split
   . exact Aa _
   . exact trivial
 . split
   . split
     . exact Aa _
     . exact aY p { m with rest:={ m.rest with slice:=none } }
   . exact aY ..
def uD{p:Program}{m b:Machine}(h:step p m=.next b):m.world.drawn<=b.world.drawn:=by
 unfold step stepT at h;have a:=uC p m;revert h a;cases move p m with
 |goroutine M i=>
  intro h a;have c:=tx p M i true;rw[show(runT p M i true).1=.next b from h]at c;exact Ac a c
 |machine s o=>
  intro h a;have a:IK m.world.drawn s:=a;rw[show s=.next b from h]at a;exact a
def aZ{p:Program}{m a:Machine}(h:Steps p m a):m.world.drawn<=a.world.drawn:=by
 obtain⟨n,hn⟩:=h;induction n generalizing m with
 |zero=>simp[runN]at hn;exact hn ▸ Aa _
 |succ n b=>
  simp only[runN]at hn;cases hs:step p m with
  |next c=>rw[hs]at hn;exact Ac (uD hs) (b hn)
  |ended o w=>rw[hs]at hn;simp at hn
def uE{P:Program}{f:FuncId}{args:Array Value}{w:B}{R:Ending->B->Prop}(h:Calls P f args w R)(hn:∀w',¬R .outgrown w'):Calls P f args w λe w'=>R e w'/\w.drawn<=w'.drawn:=by
 intro cs;obtain⟨e,w',fr,b,a,d⟩:=h cs;refine⟨e,w',fr,⟨b,?_⟩,a,d⟩;cases e with
 |returned v=>exact aZ a
 |panicked c=>exact aZ a
 |outgrown=>exact absurd b (hn w')
def grown_of{W V:B}(h:RowKit.Below W.heap.size W V)(b:W.drawn<=V.drawn):∃q os,V=Sort.grow (W.drewN q) os:=by
 refine⟨V.drawn-W.drawn,V.heap.extract W.heap.size V.heap.size,?_⟩;have hh:V.heap=W.heap++V.heap.extract W.heap.size V.heap.size:=by
  refine Array.ext_getElem? λi=>?_;rw[Array.getElem?_append];split
  . rename_i hi;exact h.block i hi
  . rw[Array.getElem?_extract];have:=h.size;split
    . congr 1;omega
    . rename_i hi;exact Array.getElem?_eq_none O
 cases V with
 |mk heap tape a os output=>
  have c:os=W.os:=h.os;have d:tape=W.tape:=h.tape;have e:output=W.output:=h.output;subst c d e;have b:W.drawn<=a:=b;unfold Sort.grow World.drewN;congr 1;show a=W.drawn+(a-W.drawn);omega
