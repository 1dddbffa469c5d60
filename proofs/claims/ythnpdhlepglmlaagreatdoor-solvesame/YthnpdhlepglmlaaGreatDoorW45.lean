import Derived.Test.YthnpdhlepglmlaaGreatDoorW01
import Derived.Below
import Derived.Sort.Grow
import Derived.Deep.Draws
set_option linter.all false
open Go renaming World->B
set_option maxRecDepth 99999
set_option maxHeartbeats 0
namespace Go.Proofs.YthnpdhlepglmlaaGreatDoor
open Go
def BS:type_of% @congrArg:=@congrArg
def K9{α:Type}(n:Nat):Result α->Prop
 |.ok _ w=>n<=w.drawn
 |.halt _ w=>n<=w.drawn
def K9.mono{α:Type}{m n:Nat}{r:Result α}(h:K9 m r)(hn:n<=m):K9 n r:=by
 cases r with
 |ok a w=>exact Ac hn h
 |halt a w=>exact Ac hn h
variable{l:List Addr}{v:Value}
theorem tO{α:Type}:∀(a:Ask α) (w:B),w.drawn<=(w.ask a).2.drawn:=by
 intro a;induction a with
 |done a=>intro w;exact Aa _
 |ask d c k b=>
  intro w;grind[World.ask]
theorem tS(w:B)(c:Sys):w.drawn<=(w.sys c).2.drawn:=by
 grind[World.sys,tO]
def tT{p:Program}{w w':B}{at_:Addr}{u:TypeId}{k:Addr}{a:Bool}(h:w.viewStore p at_ u k v a=.ok (w',l)):w.drawn<=w'.drawn:=by
 unfold World.viewStore at h;simp only[bind,Except.bind,pure,Except.pure]at h;repeat' split at h
 all_goals first|(cases h;exact Aa _)|cases h
def tU{p:Program}{w w':B}{a:Addr}{b:Bool}(h:w.farStore p a v b=.ok (w',l)):w.drawn<=w'.drawn:=by
 unfold World.farStore at h;repeat' split at h
 all_goals first|(cases h;done)|skip
 all_goals(rename_i e;cases h;exact tT e)
theorem tV(w:B)(a:Addr)(n:Nat):w.drawn<=(w.freeze a n).drawn:=by
 grind[World.freeze]
theorem O2{α:Type}(p:Program):∀(s:Sem α) (w:B),K9 w.drawn (s.run p w):=by
 intro s;induction s with
 |pure a=>intro w;exact Aa _
 |load m a k b=>
  intro w;simp only[Sem.run];split
  . exact b _ w
  . split
    . exact b _ w
    . exact Aa _
 |store m a v k b=>
  intro w;have key:K9 w.drawn (match w.cell? a with
   |some _=>if w.frozen? a then Result.halt (.unsupported (.unsafePointer "a write to bytes that a string shares")) w else k.run p (w.setCell a v)
   |none=>match w.farStore p a v (m == .atomic)with
   |.ok (w,_)=>k.run p w
   |.error h=>.halt h w):=by
   split
   . split
     . exact Aa _
     . exact b (w.setCell a v)
   . split
     . rename_i w2 _ e;exact(b w2).mono (tU e)
     . exact Aa _
  cases v<;>first|exact key|exact Aa _
 |new o k b=>intro w;exact b _ { w with heap:=w.heap.push o }
 |shape r k b=>intro w;exact b _ w
 |freeze a n k b=>intro w;exact(b (w.freeze a n)).mono (tV w a n)
 |frozen a k b=>intro w;exact b _ w
 |getObj r k b=>
  intro w;simp only[Sem.run];split
  . exact Aa _
  . exact b _ w
  . exact Aa _
 |setObj r o k b=>
  intro w;simp only[Sem.run];split
  . exact Aa _
  . grind
  . exact Aa _
 |choose q k b=>
  intro w;simp only[Sem.run];split
  . exact b _ w
  . exact(b (q.cut (w.tape w.drawn q)) { w with drawn:=w.drawn+1 }).mono (Nat.le_succ _)
 |sys c k b=>
  intro w;exact(b (w.sys c).1 (w.sys c).2).mono (tS w c)
 |program k b=>intro w;exact b _ w
 |mark m k b=>intro w;exact b w
 |halt h=>intro w;exact Aa _
theorem SQ{α:Type}(p:Program):∀(s:Sem α) (w:B) (es:Array Event),(s.runT p w es).1=s.run p w:=by
 intro s;induction s<;>intro w es
 case store m a v k b=>
  cases v<;>first|rfl|skip
  all_goals
   grind[Sem.run,Sem.runT]
 all_goals first|rfl|skip
 all_goals(rename_i b;first|exact b _ _|exact b _ _ _|skip)
 all_goals grind[Sem.run,Sem.runT]
def NK{α:Type}(p:Program)(s:Sem α)(w:B)(es:Array Event):K9 w.drawn (s.runT p w es).1:=by rw[SQ];exact O2 p s w
section
variable {α:Type} {p:Program} {s:Sem α} {w w':World} {a:α} {h:Halt} {es es':Array Event}
def F1(e:s.run p w=.ok a w'):w.drawn<=w'.drawn:=by have k:=O2 p s w;rw[e]at k;exact k
def ST(e:s.run p w=.halt h w'):w.drawn<=w'.drawn:=by have k:=O2 p s w;rw[e]at k;exact k
def aZ(e:(s.runT p w es).1=.ok a w'):w.drawn<=w'.drawn:=F1 (by rw[<-SQ p s w es];exact e)
def tW(e:(s.runT p w es).1=.halt h w'):w.drawn<=w'.drawn:=ST (by rw[<-SQ p s w es];exact e)
def ag(e:s.runT p w es=(.ok a w',es')):w.drawn<=w'.drawn:=aZ (es:=es) (by rw[e])
def bA(e:s.runT p w es=(.halt h w',es')):w.drawn<=w'.drawn:=tW (es:=es) (by rw[e])
end
def EI(n:Nat):GStep->Prop
 |.go _ w _=>n<=w.drawn
 |.comm _ _ _ _ w _=>n<=w.drawn
 |.spawn _ _ w _=>n<=w.drawn
 |.count _ w _=>n<=w.drawn
 |.timer _ _ w _=>n<=w.drawn
 |.alone _ _ w _=>n<=w.drawn
 |.newcoro _ _ _ w _=>n<=w.drawn
 |.coroswitch _ _ _ w _=>n<=w.drawn
 |.collect _ w _=>n<=w.drawn
 |.watch _ w _=>n<=w.drawn
 |.ended _ _ _=>True
variable{m n:Nat}
def EI.mono{r:GStep}(h:EI m r)(hn:n<=m):EI n r:=by
 cases r<;>first|exact Ac hn h|exact trivial
def KY{r:GStep}(es:Array Event)(h:EI n r):EI n (r.after es):=by
 cases r<;>exact h
def KZ{q:Prop}(h:q:=by
 repeat' first|split|refine KY _ ?_|dsimp only
 all_goals first|exact Aa _|exact trivial|exact F1 (by assumption)|exact aZ (by assumption)|exact ST (by assumption)|exact ag (by assumption)|exact bA (by assumption)):q:=h
def tX(n:Nat)(w:B)(a:Nat)(t:ByteArray)(o:Outcome):EI n (endWith w a t o):=by unfold endWith;exact KZ
def bB(p:Program)(fr:Frame)(v:Value)(w:B):EI w.drawn (endPrinting p fr v w):=by unfold endPrinting;exact KZ
def bC(p:Program)(fr:Frame)(cs:List Frame)(d:Option Dying)(m:String)(w:B):EI w.drawn (endFatal p fr cs d m w):=by unfold endFatal;exact KZ
def tY(p:Program)(fr:Frame)(d:Dying)(f:Fatal)(w:B):EI w.drawn (writeOn p fr d f w):=by unfold writeOn;exact KZ
theorem tZ(p:Program)(fr:Frame)(d:Dying)(w:B):EI w.drawn (die p fr d w):=by
 unfold die;repeat' first|exact tY ..|exact tX ..|split|refine KY _ ?_|dsimp only
 all_goals first|exact KZ|exact(bB ..).mono (bA (by assumption))
def SU(p:Program)(a:Bool)(fr:Frame)(cs:List Frame)(d:Option Dying)(v:Value)(w:B):EI w.drawn (doReturn p a fr cs d v w):=by unfold doReturn;exact KZ
def bD(p:Program)(fr:Frame)(cs:List Frame)(d:Option Dying)(g:Nat)(w:B):EI w.drawn (early p fr cs d g w):=by
 have hn:∀V:B,w.drawn<=V.drawn->EI w.drawn (match V.heap[g]? with
  |some (.pending c a)=>
  GStep.go { frame:=fr,callers:=cs,status:=.running,dying:=d } { V with heap:=V.heap.setIfInBounds g (.cells c a) }
   |_=>.ended (.stuck "early: the variable does not wait" (fr.pos p)) V):=λV b=>by
  split
  . exact b
  . exact trivial
 unfold early;repeat' first|exact hn w (Aa _)|exact trivial|exact Aa _|exact hn _ (F1 (by assumption))|exact F1 (by assumption)|split|dsimp only
theorem O3{c:Prop}[Decidable c]{a b:GStep}(d:EI n a)(e:EI n b):EI n (if c then a else b):=by
 grind
def th(p:Program)(fr:Frame)(cs:List Frame)(dy:Option Dying)(d:Deferred)(w:B):EI w.drawn (callDeferred p fr cs dy d w):=by
 unfold callDeferred;refine O3 trivial ?_;have e:=NK p (invoke d.target d.args) w #[];revert e;generalize (invoke d.target d.args).runT p w #[]=R;intro e;obtain⟨r,es⟩:=R;refine KY _ ?_;dsimp only at e ⊢;cases r with
 |ok a v=>
  have e:w.drawn<=v.drawn:=e;cases a
  case coroswitch c b=>cases b<;>first|exact e|exact trivial
  case alone b u=>cases b<;>first|exact e|exact trivial
  all_goals((try dsimp only);(repeat' split)<;>first|exact e|exact trivial|skip)
 |halt h v=>
  have e:w.drawn<=v.drawn:=e;cases h<;>(try dsimp only)<;>(repeat' split)<;>first|exact e|exact trivial|exact(bC ..).mono e|exact(show EI _ (endThrow _ _ _)from e)|skip
theorem tl(p:Program)(a:Bool)(fr:Frame)(cs:List Frame)(dy:Option Dying)(w:B):EI w.drawn (unwind p a fr cs dy w):=by
 unfold unwind;repeat' first|exact th ..|exact bB ..|exact SU ..|split|refine KY _ ?_|dsimp only
 all_goals first|exact KZ|exact(SU ..).mono (ag (by assumption))
def NL(p:Program)(c:Bool)(fr:Frame)(cs:List Frame)(dy:Option Dying)(s:Sem Next)(w:B):EI w.drawn (stepG.apply p c fr cs dy s w):=by
 unfold stepG.apply;have b:K9 w.drawn (if c then s.runT p w #[]else(s.run p w,#[])).1:=by
  split
  . exact NK ..
  . exact O2 ..
 revert b;dsimp only;generalize (if c then s.runT p w #[]else(s.run p w,#[]))=R;intro b;obtain⟨r,es⟩:=R;refine KY _ ?_;dsimp only at b ⊢;cases r with
 |ok a v=>
  have b:w.drawn<=v.drawn:=b;cases a<;>(try dsimp only)<;>(repeat' split)<;>first|exact b|exact trivial|exact(show EI _ (endThrow _ _ _)from b)|skip
 |halt h v=>
  have b:w.drawn<=v.drawn:=b;cases h
  case unsupported u=>cases u<;>first|exact trivial|exact(bD ..).mono b
  all_goals(try dsimp only)<;>(repeat' split)<;>first|exact b|exact trivial|exact(bC ..).mono b|exact(bD ..).mono b|exact(show EI _ (endThrow _ _ _)from b)|skip
def tn(p:Program)(a:Bool)(fr:Frame)(cs:List Frame)(dy:Option Dying)(w:B):EI w.drawn (stepG.oper p a fr cs dy w):=by
 unfold stepG.oper;repeat' first|exact NL ..|split
 all_goals exact trivial
def tt(p:Program)(d:Bool)(fr:Frame)(cs:List Frame)(dy:Option Dying)(w:B)(l:Nat)(c:Option Code):
 EI w.drawn (match (Instr.endRound l c).runT p w #[]with
  |(r,es)=>GStep.after (seen p fr.fn es) <| match r with
  |.ok v w=>doReturn p d fr cs dy v w
  |.halt _ w=>.ended (.stuck "range over a function: no such loop" (fr.pos p)) w):=by
 have b:=NK p (Instr.endRound l c) w #[];revert b;generalize (Instr.endRound l c).runT p w #[]=R;intro b;obtain⟨r,es⟩:=R;refine KY _ ?_;cases r with
 |ok a v=>exact(SU ..).mono b
 |halt h v=>exact trivial
theorem tu(p:Program)(d i:Bool)(fr:Frame)(cs:List Frame)(dy:Option Dying)(w:B):EI w.drawn (stepG.exec p d i fr cs dy w):=by
 have hl:∀c:Option Code,EI w.drawn (match fr.roundOf with
  |none=>if c matches none|some .ret then GStep.go { frame:={ fr with mode:=.returning },callers:=cs,status:=.running,dying:=dy } w else .ended (.stuck "exit, goto: no such block or label" (fr.pos p)) w
  |some l=>
  let (r,es):=(Instr.endRound l c).runT p w #[]
  GStep.after (seen p fr.fn es) <| match r with
   |.ok v w=>doReturn p d fr cs dy v w
   |.halt _ w=>.ended (.stuck "range over a function: no such loop" (fr.pos p)) w):=λc=>by
  cases fr.roundOf with
  |none=>exact O3 (Aa _) trivial
  |some l=>exact tt p d fr cs dy w l c
 unfold stepG.exec;dsimp only;split
 . exact hl none
 . exact hl (some .ret)
 . exact Aa _
 . exact Aa _
 . exact Aa _
 . exact Aa _
 . exact Aa _
 . split
   . exact Aa _
   . exact trivial
 . exact Aa _
 . exact Aa _
 . exact Aa _
 . exact Aa _
 . rename_i id k _;cases exitTo id k with
   |none=>exact hl (some (.exit id))
   |some g=>exact Aa _
 . rename_i id k _;cases gotoIn id k with
   |none=>exact hl (some (.goto id))
   |some g=>exact Aa _
 . rename_i f params assign body k _;have b:=NK p (Instr.enterLoop fr.fn fr.tmps params assign body fr.roundOf) w #[];revert b;generalize (Instr.enterLoop fr.fn fr.tmps params assign body fr.roundOf).runT p w #[]=R;intro b;obtain⟨r,es⟩:=R;refine KY _ ?_;cases r with
   |ok a v=>exact(NL ..).mono b
   |halt h v=>exact trivial
 . exact trivial
 . exact NL ..
 . rename_i l k _;have b:=NK p (Instr.endLoop l) w #[];revert b;generalize (Instr.endLoop l).runT p w #[]=R;intro b;obtain⟨r,es⟩:=R;refine KY _ ?_;cases r with
   |ok a v=>exact b
   |halt h v=>cases h<;>first|exact b|exact trivial
 . exact trivial
 . exact NL ..
 . rename_i row args _ _;cases Extern.next row with
   |none=>exact trivial
   |some e=>exact NL ..
 . refine O3 (Aa _) ?_;split
   . rename_i e;exact F1 e
   . exact trivial
 . exact Aa _
 . exact O3 (tn ..) (Aa _)
theorem tx(p:Program)(b a:Bool)(g:Goroutine)(w:B):EI w.drawn (stepG p b g w a):=by
 unfold stepG;grind[tZ,tu,tl]
def IU(n:Nat):Stepped->Prop
 |.next m=>n<=m.world.drawn
 |.ended _ _=>True
def IU.mono{r:Stepped}(h:IU m r)(hn:n<=m):IU n r:=by
 cases r<;>first|exact Ac hn h|exact trivial
theorem uA{rest:Rest}{cases:Array CommCase}{w w':B}(h:waitingAt rest cases w=some w'):w'.drawn=w.drawn:=by
 grind[waitingAt]
def uB(p:Program)(rest:Rest)(d:Array Goroutine)(i:Nat)(g:Goroutine)(cases:Array CommCase)(c:Bool)(j:CommShape)(w:B):IU w.drawn (communicate p rest d i g cases c j w).1:=by
 unfold communicate;dsimp only;split
 . exact trivial
 . split
   . split
     . split
       . rename_i e;exact Nat.le_of_eq (uA e).symm
       . exact trivial
     . exact Aa _
   . split
     . exact trivial
     . rename_i e;have a:=F1 e;split
       . split
         . rename_i b;exact Ac a (ST b)
         . exact trivial
       . exact a
       . exact a
       . split
         . exact a
         . split
           . rename_i b;have f:=F1 b;exact Ac a f
           . exact trivial
       . exact a
       . exact a
       . exact trivial
def bE(p:Program)(a:Array Goroutine)(rest:Rest)(w:B):IU w.drawn (look p a rest w):=by
 unfold look;split
 . dsimp only;split
   . exact trivial
   . split
     . exact trivial
     . split
       . rename_i e;have h:=F1 e;exact h
       . exact trivial
       . exact trivial
 . exact trivial
theorem uC(m:Machine)(k:Nat)(t:Timer)(a b:Nat):(retime m k t a b).2.world.drawn=m.world.drawn:=by
 grind[retime,drain]
def uD{m c:Machine}{op:TimerOp}{v:Value}(h:timerOp m op=.ok (v,c)):c.world.drawn=m.world.drawn:=by
 have hn:∀ {M:Machine} {d:Addr} {a b:Timer->Nat},timerOp.named m d (λk t=>retime M k t (a t) (b t))=.ok (v,c)->M.world.drawn=m.world.drawn->c.world.drawn=m.world.drawn:=fun {M d a b} h hM=>by
  unfold timerOp.named at h;split at h
  . have:=BS (λr:Except _ (Value × Machine)=>match r with|.ok x=>x.2|.error _=>c) h;dsimp only at this;rw[<-this,uC];exact hM
  . cases h
 cases op with
 |new t=>
  unfold timerOp at h;dsimp only at h;repeat' split at h
  all_goals first|(cases h;rfl)|cases h
 |stop d=>
  exact hn (a:=λ_=>0) (b:=λt=>t.period) h J
 |reset d f g=>
  unfold timerOp at h;dsimp only at h;split at h
  . rename_i M e;refine hn (M:=M) (a:=λ_=>f) (b:=λ_=>g) h ?_;unfold timerOp.opened at e;repeat' split at e
    all_goals first|(cases e;rfl)|cases e
  . cases h
 |deadline i j l f=>
  unfold timerOp at h;cases h;rfl
def uE(p:Program)(m:Machine)(k:Nat):IU m.world.drawn (serve p m k):=by
 unfold serve;exact KZ
def uF(p:Program)(m:Machine)(i:Nat)(a:Bool):IU m.world.drawn (runT p m i a).1:=by
 unfold runT;dsimp only;have hs:=tx p (i==0) a (m.gs.swapAt! i { (default:Goroutine)with status:=.finished }).1 m.world;revert hs;generalize stepG p (i==0) (m.gs.swapAt! i { (default:Goroutine)with status:=.finished }).1 m.world a=S;intro hs;cases S with
 |go g w es=>exact hs
 |comm g c b j w es=>exact(uB ..).mono hs
 |spawn g c w es=>exact hs
 |count g w es=>
  dsimp only;split
  . exact trivial
  . exact hs
 |timer g op w es=>
  have hs:m.world.drawn<=w.drawn:=hs;dsimp only;split
  . rename_i e;have h:=uD e;exact Ac hs (Nat.le_of_eq h.symm)
  . unfold endThrow dieOf;exact hs
  . exact trivial
  . exact trivial
 |alone g f w es=>exact hs
 |newcoro g c d w es=>exact hs
 |coroswitch g c ex w es=>
  dsimp only;split
  . exact hs
  . unfold endThrow dieOf;exact hs
  . exact trivial
 |collect g w es=>exact(bE ..).mono hs
 |watch g w es=>exact hs
 |ended o w es=>exact trivial
def LA(n:Nat):Move->Prop
 |.goroutine m _=>n<=m.world.drawn
 |.machine s _=>IU n s
def LA.mono{m n:Nat}{r:Move}(h:LA m r)(hn:n<=m):LA n r:=by
 cases r with
 |goroutine m i=>exact Ac hn h
 |machine s o=>exact IU.mono h hn
def SV(p:Program)(m:Machine)(rs:List Nat):LA m.world.drawn (match (choose (.sched rs.length)).run p m.world with
 |.halt _ w=>Move.machine (.ended (.stuck "sched" "") w)
 |.ok k wd=>
 if rs.length<=1 then .goroutine { m with world:=wd } (rs.getD k 0)else
 match (choose (.extern "sched.slice" 65536)).run p wd with
  |.halt _ w=>.machine (.ended (.stuck "sched.slice" "") w)
  |.ok n wd=>.goroutine { m with world:=wd,rest:={ m.rest with slice:=if n=0 then none else some (rs.getD k 0,n) } } (rs.getD k 0)):=by
 split
 . exact trivial
 . rename_i e;have a:=F1 e;split
   . exact a
   . split
     . exact trivial
     . rename_i b;have c:=F1 b;exact Ac a c
def SW(p:Program)(m:Machine):LA m.world.drawn (askOn p m):=by
 unfold askOn;dsimp only;split
 . exact trivial
 . rename_i wd e;have a:=F1 e;split
   . exact(uE p { m with world:=wd } _).mono a
   . split
     . split
       . exact a
       . split
         . exact a
         . split
           . exact trivial
           . exact trivial
     . split
       . exact(SV p { m with world:=wd } _).mono a
       . split
         . exact trivial
         . rename_i W b;have c:=F1 b;exact(SV p { m with world:=W } _).mono (Ac a c)
         . rename_i b;have c:=F1 b;exact Ac a c
         . rename_i W b;have c:=F1 b;exact(SV p ({ m with world:=W }.advanceTo _) _).mono (Ac a c)
def bF(p:Program)(m:Machine):LA m.world.drawn (ask p m):=by
 unfold ask;split
 . split
   . exact trivial
   . rename_i wd e;have a:=F1 e;have b:=bE p m.gs m.rest wd;revert b;cases look p m.gs m.rest wd with
     |next M=>intro b;exact(SW p M).mono (Ac a b)
     |ended o w=>intro _;exact trivial
   . rename_i wd _ e;have a:=F1 e;exact(SW p { m with world:=wd }).mono a
 . exact SW ..
def uG(p:Program)(m:Machine):LA m.world.drawn (move p m):=by
 unfold move;split
 . split
   . exact Aa _
   . exact trivial
 . split
   . split
     . exact Aa _
     . exact bF p { m with rest:={ m.rest with slice:=none } }
   . exact bF ..
def uH{p:Program}{m b:Machine}(h:step p m=.next b):m.world.drawn<=b.world.drawn:=by
 unfold step stepT at h;have a:=uG p m;revert h a;cases move p m with
 |goroutine M i=>
  intro h a;have c:=uF p M i true;rw[show(runT p M i true).1=.next b from h]at c;exact Ac a c
 |machine s o=>
  intro h a;have a:IU m.world.drawn s:=a;rw[show s=.next b from h]at a;exact a
theorem bG{p:Program}{m a:Machine}(h:Steps p m a):m.world.drawn<=a.world.drawn:=by
 obtain⟨n,hn⟩:=h;induction n generalizing m with
 |zero=>simp[runN]at hn;grind
 |succ n b=>
  simp only[runN]at hn;cases hs:step p m with
  |next c=>rw[hs]at hn;exact Ac (uH hs) (b hn)
  |ended o w=>grind
def uI{P:Program}{f:FuncId}{args:Array Value}{w:B}{R:Ending->B->Prop}(h:Calls P f args w R)(hn:∀w',¬R .outgrown w'):Calls P f args w λe w'=>R e w'/\w.drawn<=w'.drawn:=by
 intro cs;obtain⟨e,w',fr,b,a,d⟩:=h cs;refine⟨e,w',fr,⟨b,?_⟩,a,d⟩;cases e with
 |returned v=>exact bG a
 |panicked c=>exact bG a
 |outgrown=>exact absurd b (hn w')
theorem grown_of{W V:B}(h:RowKit.Below W.heap.size W V)(a:W.drawn<=V.drawn):∃q os,V=Sort.grow (W.drewN q) os:=by
 refine⟨V.drawn-W.drawn,V.heap.extract W.heap.size V.heap.size,?_⟩;have hh:V.heap=W.heap++V.heap.extract W.heap.size V.heap.size:=by
  refine Array.ext_getElem? λi=>?_;rw[Array.getElem?_append];split
  . rename_i hi;exact h.block i hi
  . grind
 cases V with
 |mk heap tape b os output=>
  have c:os=W.os:=h.os;have d:tape=W.tape:=h.tape;have e:output=W.output:=h.output;subst c d e;have a:W.drawn<=b:=a;unfold Sort.grow World.drewN;congr 1;grind
