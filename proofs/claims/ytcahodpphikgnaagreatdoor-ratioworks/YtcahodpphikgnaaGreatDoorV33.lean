import Derived.Test.YtcahodpphikgnaaGreatDoorV22
import Derived.Test.YtcahodpphikgnaaGreatDoorRows
import Derived.ProofKit
import Derived.LaidMore
import Derived.OpenShut
import Derived.Stop.Joined
set_option linter.all false
set_option maxRecDepth 99999
set_option maxHeartbeats 0
namespace Go.Proofs.YtcahodpphikgnaaGreatDoor
open Go.ChangeMaps Go.ChangeShapes Go.WideShapes Go.ChangeAt Go.WideMaps Go.WideElems Go.RowKit
variable{W:World}
def own:ownKnob Tryz.prog.godebug=none:=by kernel_rfl
def EX:List (String × DataW Unit):=[("math/bits.deBruijn32tab",Rows.laid_math_bits_deBruijn32tab),("math/bits.deBruijn64tab",Rows.laid_math_bits_deBruijn64tab),("internal/strconv.uint64pow10",Rows.laid_internal_strconv_uint64pow10),("strconv.ErrRange",Rows.laid_strconv_ErrRange),("strconv.ErrSyntax",Rows.laid_strconv_ErrSyntax)]
def N3(os:Os)(args:Array Value):laidMetH Tryz.prog EX ((World.doorLaid Tryz.prog 400 os).forCall (λ_ _=>0) ⟨#[],args,[]⟩).memory:=
 laidMetH_of_parts3 (fuel:=8) (laidMet_of_run' 8 N9 N9) N9 N9
def N4(h:laidMetH Tryz.prog EX W):Lib.TabIs Tryz.prog W "internal/strconv.uint64pow10" .u64 Lib.pow10Tab:=by
 rw[MakeChecks.laidMetH_plain _ _ _ N9]at h;obtain⟨ps,⟨i,u,e,f0,p0,q0,n,p,r,l,⟨j,v,f,f1,p1,q1,o,q,s,m,⟨k,w,g,f2,t,q2,b,c,d,a,_⟩,_⟩,_⟩,_⟩:=h;obtain rfl:=Cv ((show Tryz.prog.globalNamed "internal/strconv.uint64pow10"=some 3 by kernel_rfl).symm.trans b);obtain rfl:=Cv ((show(Tryz.prog.globals[3]?).map (·.type)=some 160 by kernel_rfl).symm.trans c);unfold Lib.TabIs;rw[d,<-Lib.cells_of_tab (show Tryz.prog.underlying 160=some (.array 20 94)by kernel_rfl) (show Tryz.prog.underlying 94=some (.int .u64)by kernel_rfl) N9 N9 a]
def N5{a:Type}{enc:TypeId × Value->a}{P:Program}{f:Func}{s:ChangeSpec}{e m o l:Bool}{W':World}{args:Array Value}{v:Value}{ds c:List (DataW a)}
(n:DataW.Whole enc P f.params.toList s.vars e W args.toList ds c [])
(i:∀(b:Nat) (d:Nat->Bool) (q:Bool),DataW.TrodAll enc P W' b d q f.resultTypes.toList (v.resultList f.resultTypes.size) (s.fn a (ds++c)).results [])
(g:∀d:Nat->Bool,DataW.TrodAll enc P W' 0 d true f.params.toList args.toList (s.fn a (ds++c)).args [])
(k:∀d:Nat->Bool,DataW.TrodVars enc P W' d s.vars (s.fn a (ds++c)).vars [])
(u:W.keptBut W' (·∈[]))
(w:∀(j:Nat) (t:TypeId) (r:Value),f.resultTypes[j]?=some t->(v.resultList f.resultTypes.size)[j]?=some r->Value.okWide P W' .any 0 t r):
 s.post enc P f e m o l W args v W':=by
 refine⟨ds,c,[],[],[],[],n,i _ _ _,g _,k _,World.keptBut_mono (λp hp=>by cases hp) u,λ_=>?_⟩;refine⟨w,_,_,([]++[])++[],⟨[]++[],[],trodAll_append (g _) (i _ _ _),k _,J,?_,?_⟩,?_⟩
 . intro b x hp;cases hp
 . intro _;exact List.nodup_nil
 . intro p hp _;cases hp
