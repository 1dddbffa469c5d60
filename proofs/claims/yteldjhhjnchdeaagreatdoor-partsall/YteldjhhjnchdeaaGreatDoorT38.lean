import Derived.Test.YteldjhhjnchdeaaGreatDoorT24
import Derived.Test.YteldjhhjnchdeaaGreatDoorRows
import Derived.ProofKit
import Derived.LaidMore
import Derived.OpenShut
import Derived.Stop.Joined
import Derived.Lay
set_option linter.all false
set_option maxRecDepth 99999
set_option maxHeartbeats 0
namespace Go.Proofs.YteldjhhjnchdeaaGreatDoor
open Go.ChangeMaps Go.ChangeShapes Go.WideShapes Go.ChangeAt Go.WideMaps Go.WideElems Go.RowKit
variable{W:World}
def own:ownKnob Tryz.prog.godebug=none:=by kernel_rfl
def Ix:List (String × DataW Unit):=[("math/bits.deBruijn32tab",Rows.laid_math_bits_deBruijn32tab),("math/bits.deBruijn64tab",Rows.laid_math_bits_deBruijn64tab),("internal/strconv.uint64pow10",Rows.laid_internal_strconv_uint64pow10),("unicode/utf8.acceptRanges",Rows.laid_unicode_utf8_acceptRanges),("strconv.ErrRange",Rows.laid_strconv_ErrRange),("strconv.ErrSyntax",Rows.laid_strconv_ErrSyntax),("unicode/utf8.first",Rows.laid_unicode_utf8_first)]
def kK(os:Os)(args:Array Value):laidMetH Tryz.prog Ix ((World.laidAll Tryz.prog os Ix).forCall (λ_ _=>0) ⟨#[],args,[]⟩).memory:=by
 rw[MakeChecks.laidMetH_plain _ _ _ kS];exact laidMet_laidAll _ kS kS
def kL(h:laidMetH Tryz.prog Ix W):Lib.TabIs Tryz.prog W "internal/strconv.uint64pow10" .u64 Lib.pow10Tab:=by
 rw[MakeChecks.laidMetH_plain _ _ _ kS]at h;obtain⟨ps,⟨i,s,e,f0,p0,q0,l,n,p,j,⟨g1,t,f,f1,p1,q1,m,o,q,k,⟨g2,u,g,f2,r,q2,b,c,d,a,_⟩,_⟩,_⟩,_⟩:=h;obtain rfl:=Cf ((show Tryz.prog.globalNamed "internal/strconv.uint64pow10"=some 0 by kernel_rfl).symm.trans b);obtain rfl:=Cf ((show(Tryz.prog.globals[0]?).map (·.type)=some 184 by kernel_rfl).symm.trans c);unfold Lib.TabIs;rw[d,<-Lib.cells_of_tab (show Tryz.prog.underlying 184=some (.array 20 156)by kernel_rfl) (show Tryz.prog.underlying 156=some (.int .u64)by kernel_rfl) kS kS a]
def kN{H:Type}{enc:TypeId × Value->H}{P:Program}{f:Func}{s:ChangeSpec}{d l n k:Bool}{W':World}{args:Array Value}{v:Value}{ds a:List (DataW H)}
(m:DataW.Whole enc P f.params.toList s.vars d W args.toList ds a [])
(g:∀(b:Nat) (c:Nat->Bool) (o:Bool),DataW.TrodAll enc P W' b c o f.resultTypes.toList (v.resultList f.resultTypes.size) (s.fn H (ds++a)).results [])
(e:∀c:Nat->Bool,DataW.TrodAll enc P W' 0 c true f.params.toList args.toList (s.fn H (ds++a)).args [])
(i:∀c:Nat->Bool,DataW.TrodVars enc P W' c s.vars (s.fn H (ds++a)).vars [])
(q:W.keptBut W' (·∈[]))
(u:∀(j:Nat) (t:TypeId) (r:Value),f.resultTypes[j]?=some t->(v.resultList f.resultTypes.size)[j]?=some r->Value.okWide P W' .any 0 t r):
 s.post enc P f d l n k W args v W':=by
 refine⟨ds,a,[],[],[],[],m,g _ _ _,e _,i _,World.keptBut_mono (λp hp=>by cases hp) q,λ_=>?_⟩;refine⟨u,_,_,([]++[])++[],⟨[]++[],[],trodAll_append (e _) (g _ _ _),i _,J,?_,?_⟩,?_⟩
 . intro b w hp;cases hp
 . intro _;exact List.nodup_nil
 . intro p hp _;cases hp
