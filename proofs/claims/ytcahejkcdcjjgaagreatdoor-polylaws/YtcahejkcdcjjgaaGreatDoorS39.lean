import Derived.Test.YtcahejkcdcjjgaaGreatDoorS24
import Derived.Test.YtcahejkcdcjjgaaGreatDoorRows
import Derived.ProofKit
import Derived.LaidMore
import Derived.OpenShut
import Derived.Stop.Joined
import Derived.Lay
set_option linter.all false
set_option maxRecDepth 99999
set_option maxHeartbeats 0
namespace Go.Proofs.YtcahejkcdcjjgaaGreatDoor
open Go.ChangeMaps Go.ChangeShapes Go.WideShapes Go.ChangeAt Go.WideMaps Go.WideElems Go.RowKit
variable{W:World}
def own:ownKnob Tryz.prog.godebug=none:=by kernel_rfl
def GM:List (String × DataW Unit):=[("math/bits.deBruijn32tab",Rows.laid_math_bits_deBruijn32tab),("math/bits.deBruijn64tab",Rows.laid_math_bits_deBruijn64tab),("internal/strconv.uint64pow10",Rows.laid_internal_strconv_uint64pow10),("unicode/utf8.acceptRanges",Rows.laid_unicode_utf8_acceptRanges),("strconv.ErrRange",Rows.laid_strconv_ErrRange),("strconv.ErrSyntax",Rows.laid_strconv_ErrSyntax),("unicode/utf8.first",Rows.laid_unicode_utf8_first)]
def WJ(os:Os)(args:Array Value):laidMetH Tryz.prog GM ((World.laidAll Tryz.prog os GM).forCall (λ_ _=>0) ⟨#[],args,[]⟩).memory:=by
 rw[MakeChecks.laidMetH_plain _ _ _ WS];exact laidMet_laidAll _ WS WS
def WK(h:laidMetH Tryz.prog GM W):Lib.TabIs Tryz.prog W "internal/strconv.uint64pow10" .u64 Lib.pow10Tab:=by
 rw[MakeChecks.laidMetH_plain _ _ _ WS]at h;obtain⟨ps,⟨i,u,e,f0,p0,q0,n,p,r,l,⟨j,v,f,f1,p1,q1,o,q,s,m,⟨k,w,g,f2,t,q2,b,c,d,a,_⟩,_⟩,_⟩,_⟩:=h;obtain rfl:=A7 ((show Tryz.prog.globalNamed "internal/strconv.uint64pow10"=some 0 by kernel_rfl).symm.trans b);obtain rfl:=A7 ((show(Tryz.prog.globals[0]?).map (·.type)=some 211 by kernel_rfl).symm.trans c);unfold Lib.TabIs;rw[d,<-Lib.cells_of_tab (show Tryz.prog.underlying 211=some (.array 20 163)by kernel_rfl) (show Tryz.prog.underlying 163=some (.int .u64)by kernel_rfl) WS WS a]
def WL{a:Type}{enc:TypeId × Value->a}{P:Program}{f:Func}{s:ChangeSpec}{e m o l:Bool}{W':World}{args:Array Value}{v:Value}{ds c:List (DataW a)}
(n:DataW.Whole enc P f.params.toList s.vars e W args.toList ds c [])
(i:∀(b:Nat) (d:Nat->Bool) (q:Bool),DataW.TrodAll enc P W' b d q f.resultTypes.toList (v.resultList f.resultTypes.size) (s.fn a (ds++c)).results [])
(g:∀d:Nat->Bool,DataW.TrodAll enc P W' 0 d true f.params.toList args.toList (s.fn a (ds++c)).args [])
(k:∀d:Nat->Bool,DataW.TrodVars enc P W' d s.vars (s.fn a (ds++c)).vars [])
(u:W.keptBut W' (·∈[]))
(w:∀(j:Nat) (t:TypeId) (r:Value),f.resultTypes[j]?=some t->(v.resultList f.resultTypes.size)[j]?=some r->Value.okWide P W' .any 0 t r):
 s.post enc P f e m o l W args v W':=by
 refine⟨ds,c,[],[],[],[],n,i _ _ _,g _,k _,World.keptBut_mono (λp hp=>by cases hp) u,λ_=>?_⟩;refine⟨w,_,_,([]++[])++[],⟨[]++[],[],trodAll_append (g _) (i _ _ _),k _,J,?_,?_⟩,?_⟩
 . intro b x hp;cases hp
 . intro _;exact List.nodup_nil
 . intro p hp _;cases hp
