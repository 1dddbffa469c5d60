import Derived.Test.YtdmmbgahnkbnaaaGreatDoorU24
import Derived.Test.YtdmmbgahnkbnaaaGreatDoorRows
import Derived.ProofKit
import Derived.LaidMore
import Derived.OpenShut
import Derived.Stop.Joined
import Derived.SizedLaws
import Derived.Lay
set_option linter.all false
set_option maxRecDepth 99999
set_option maxHeartbeats 0
namespace Go.Proofs.YtdmmbgahnkbnaaaGreatDoor
open Go.ChangeMaps Go.ChangeShapes Go.WideShapes Go.ChangeAt Go.WideMaps Go.WideElems Go.RowKit
variable{W:World}
def own:ownKnob Tryz.prog.godebug=none:=by kernel_rfl
def Kw:List (String × DataW Unit):=[("math/bits.deBruijn32tab",Rows.laid_math_bits_deBruijn32tab),("math/bits.deBruijn64tab",Rows.laid_math_bits_deBruijn64tab),("internal/strconv.uint64pow10",Rows.laid_internal_strconv_uint64pow10),("unicode/utf8.acceptRanges",Rows.laid_unicode_utf8_acceptRanges),("strconv.ErrRange",Rows.laid_strconv_ErrRange),("strconv.ErrSyntax",Rows.laid_strconv_ErrSyntax),("unicode/utf8.first",Rows.laid_unicode_utf8_first)]
def tW(os:Os)(args:Array Value):laidMetH Tryz.prog Kw ((World.laidAll Tryz.prog os Kw).forCall (λ_ _=>0) ⟨#[],args,[]⟩).memory:=by
 rw[MakeChecks.laidMetH_plain _ _ _ (by kernel_rfl)];exact laidMet_laidAll _ (by kernel_rfl) (by kernel_rfl)
def tX(h:laidMetH Tryz.prog Kw W):Lib.TabIs Tryz.prog W "internal/strconv.uint64pow10" .u64 Lib.pow10Tab:=by
 rw[MakeChecks.laidMetH_plain _ _ _ (by kernel_rfl)]at h;obtain⟨ps,⟨g0,t,e,f0,p0,q0,m,o,q,k,⟨i,u,f,f1,p1,q1,n,p,r,l,⟨j,v,g,f2,s,q2,b,c,d,a,_⟩,_⟩,_⟩,_⟩:=h;obtain rfl:=Cn ((show Tryz.prog.globalNamed "internal/strconv.uint64pow10"=some 5 by kernel_rfl).symm.trans b);obtain rfl:=Cn ((show(Tryz.prog.globals[5]?).map (·.type)=some 311 by kernel_rfl).symm.trans c);unfold Lib.TabIs;rw[d,<-Lib.cells_of_tab (show Tryz.prog.underlying 311=some (.array 20 141)by kernel_rfl) (show Tryz.prog.underlying 141=some (.int .u64)by kernel_rfl) (by kernel_rfl) (by kernel_rfl) a]
def tY{H:Type}{enc:TypeId × Value->H}{P:Program}{f:Func}{s:ChangeSpec}{apart i l g:Bool}{W':World}{args:Array Value}{v:Value}{ds a:List (DataW H)}
(k:DataW.Whole enc P f.params.toList s.vars apart W args.toList ds a [])
(d:∀(b:Nat) (sp:Nat->Bool) (m:Bool),DataW.TrodAll enc P W' b sp m f.resultTypes.toList (v.resultList f.resultTypes.size) (s.fn H (ds++a)).results [])
(c:∀sp:Nat->Bool,DataW.TrodAll enc P W' 0 sp true f.params.toList args.toList (s.fn H (ds++a)).args [])
(e:∀sp:Nat->Bool,DataW.TrodVars enc P W' sp s.vars (s.fn H (ds++a)).vars [])
(hk:W.keptBut W' (·∈[]))
(n:∀(j:Nat) (t:TypeId) (r:Value),f.resultTypes[j]?=some t->(v.resultList f.resultTypes.size)[j]?=some r->Value.okWide P W' .any 0 t r):
 s.post enc P f apart i l g W args v W':=by
 refine⟨ds,a,[],[],[],[],k,d _ _ _,c _,e _,World.keptBut_mono (λp hp=>by cases hp) hk,λ_=>?_⟩;refine⟨n,_,_,([]++[])++[],⟨[]++[],[],trodAll_append (c _) (d _ _ _),e _,rfl,?_,?_⟩,?_⟩
 . intro b o hp;cases hp
 . intro _;exact List.nodup_nil
 . intro p hp _;cases hp
