import Derived.Test.YteldjhhjnchdeaaGreatDoorT24
import Derived.Test.YteldjhhjnchdeaaGreatDoorRows
import Derived.ProofKit
import Derived.LaidMore
import Derived.OpenShut
import Derived.Stop.Joined
import Derived.SizedLaws
import Derived.Lay
set_option maxRecDepth 100000
set_option maxHeartbeats 16000000
namespace Go.Proofs.YteldjhhjnchdeaaGreatDoor
open Go.ChangeMaps Go.ChangeShapes Go.WideShapes Go.ChangeAt Go.WideMaps Go.WideElems Go.RowKit
variable{W:World}
theorem own:ownKnob Tryz.prog.godebug=none:=by kernel_rfl
def Iy:List (String × DataW Unit):=[("math/bits.deBruijn32tab",Rows.laid_math_bits_deBruijn32tab),("math/bits.deBruijn64tab",Rows.laid_math_bits_deBruijn64tab),("internal/strconv.uint64pow10",Rows.laid_internal_strconv_uint64pow10),("unicode/utf8.acceptRanges",Rows.laid_unicode_utf8_acceptRanges),("strconv.ErrRange",Rows.laid_strconv_ErrRange),("strconv.ErrSyntax",Rows.laid_strconv_ErrSyntax),("unicode/utf8.first",Rows.laid_unicode_utf8_first)]
theorem fZ(os:Os)(args:Array Value):laidMetH Tryz.prog Iy ((World.laidAll Tryz.prog os Iy).forCall (λ_ _=>0) ⟨#[],args,[]⟩).memory:=by
 rw[MakeChecks.laidMetH_plain _ _ _ (by kernel_rfl)];exact laidMet_laidAll _ (by kernel_rfl) (by kernel_rfl)
theorem f5(h:laidMetH Tryz.prog Iy W):Lib.TabIs Tryz.prog W "internal/strconv.uint64pow10" .u64 Lib.pow10Tab:=by
 rw[MakeChecks.laidMetH_plain _ _ _ (by kernel_rfl)]at h;obtain⟨ps,⟨t,x,y,f0,e,q0,k,n,r,f,⟨i,j,l,f1,w,q1,v,q,g,p,⟨u,m,o,f2,s,q2,d,c,b,a,_⟩,_⟩,_⟩,_⟩:=h;obtain rfl:=Ch ((show Tryz.prog.globalNamed "internal/strconv.uint64pow10"=some 0 by kernel_rfl).symm.trans d);obtain rfl:=Ch ((show(Tryz.prog.globals[0]?).map (·.type)=some 184 by kernel_rfl).symm.trans c);unfold Lib.TabIs;rw[b,<-Lib.cells_of_tab (show Tryz.prog.underlying 184=some (.array 20 156)by kernel_rfl) (show Tryz.prog.underlying 156=some (.int .u64)by kernel_rfl) (by kernel_rfl) (by kernel_rfl) a]
theorem gA{H:Type}{enc:TypeId × Value->H}{P:Program}{f:Func}{s:ChangeSpec}{i m u n:Bool}{W':World}{args:Array Value}{v:Value}{ds a:List (DataW H)}
(l:DataW.Whole enc P f.params.toList s.vars i W args.toList ds a [])
(e:∀(b:Nat) (c:Nat->Bool) (k:Bool),DataW.TrodAll enc P W' b c k f.resultTypes.toList (v.resultList f.resultTypes.size) (s.fn H (ds++a)).results [])
(g:∀c:Nat->Bool,DataW.TrodAll enc P W' 0 c true f.params.toList args.toList (s.fn H (ds++a)).args [])
(d:∀c:Nat->Bool,DataW.TrodVars enc P W' c s.vars (s.fn H (ds++a)).vars [])
(q:W.keptBut W' (·∈[]))
(o:∀(j:Nat) (t:TypeId) (r:Value),f.resultTypes[j]?=some t->(v.resultList f.resultTypes.size)[j]?=some r->Value.okWide P W' .any 0 t r):
 s.post enc P f i m u n W args v W':=by
 refine⟨ds,a,[],[],[],[],l,e _ _ _,g _,d _,World.keptBut_mono (λp hp=>by cases hp) q,λ_=>?_⟩;refine⟨o,_,_,([]++[])++[],⟨[]++[],[],trodAll_append (g _) (e _ _ _),d _,rfl,?_,?_⟩,?_⟩
 . intro b off hp;cases hp
 . intro _;exact List.nodup_nil
 . intro p hp _;cases hp
