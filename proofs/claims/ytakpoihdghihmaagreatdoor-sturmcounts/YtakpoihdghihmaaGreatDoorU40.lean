import Derived.Test.YtakpoihdghihmaaGreatDoorU24
import Derived.Test.YtakpoihdghihmaaGreatDoorRows
import Derived.ProofKit
import Derived.LaidMore
import Derived.OpenShut
import Derived.Stop.Joined
import Derived.Lay
set_option linter.all false
set_option maxRecDepth 99999
set_option maxHeartbeats 0
namespace Go.Proofs.YtakpoihdghihmaaGreatDoor
open Go.ChangeMaps Go.ChangeShapes Go.WideShapes Go.ChangeAt Go.WideMaps Go.WideElems Go.RowKit
def own:ownKnob Tryz.prog.godebug=none:=by kernel_rfl
def K9:List (String × DataW Unit):=[("math/bits.deBruijn32tab",Rows.laid_math_bits_deBruijn32tab),("math/bits.deBruijn64tab",Rows.laid_math_bits_deBruijn64tab),("internal/strconv.uint64pow10",Rows.laid_internal_strconv_uint64pow10),("unicode/utf8.acceptRanges",Rows.laid_unicode_utf8_acceptRanges),("strconv.ErrRange",Rows.laid_strconv_ErrRange),("strconv.ErrSyntax",Rows.laid_strconv_ErrSyntax),("unicode/utf8.first",Rows.laid_unicode_utf8_first)]
def nF(os:Os)(args:Array Value):laidMetH Tryz.prog K9 ((World.laidAll Tryz.prog os K9).forCall (λ_ _=>0) ⟨#[],args,[]⟩).memory:=by
 rw[MakeChecks.laidMetH_plain _ _ _ nK];exact laidMet_laidAll _ nK nK
def nG{H:Type}{enc:TypeId × Value->H}{P:Program}{f:Func}{s:ChangeSpec}{d l n k:Bool}{W W':World}{args:Array Value}{v:Value}{ds a:List (DataW H)}
(m:DataW.Whole enc P f.params.toList s.vars d W args.toList ds a [])
(g:∀(b:Nat) (c:Nat->Bool) (o:Bool),DataW.TrodAll enc P W' b c o f.resultTypes.toList (v.resultList f.resultTypes.size) (s.fn H (ds++a)).results [])
(e:∀c:Nat->Bool,DataW.TrodAll enc P W' 0 c true f.params.toList args.toList (s.fn H (ds++a)).args [])
(i:∀c:Nat->Bool,DataW.TrodVars enc P W' c s.vars (s.fn H (ds++a)).vars [])
(q:W.keptBut W' (·∈[]))
(u:∀(j:Nat) (t:TypeId) (r:Value),f.resultTypes[j]?=some t->(v.resultList f.resultTypes.size)[j]?=some r->Value.okWide P W' .any 0 t r):
 s.post enc P f d l n k W args v W':=by
 refine⟨ds,a,[],[],[],[],m,g _ _ _,e _,i _,World.keptBut_mono (λp hp=>by cases hp) q,λ_=>?_⟩;refine⟨u,_,_,([]++[])++[],⟨[]++[],[],trodAll_append (e _) (g _ _ _),i _,J,?_,?_⟩,?_⟩
 . intro b w hp;cases hp
 . intro _;exact List.nodup_nil
 . intro p hp _;cases hp
