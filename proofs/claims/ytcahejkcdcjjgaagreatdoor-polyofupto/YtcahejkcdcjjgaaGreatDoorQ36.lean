import Derived.Test.YtcahejkcdcjjgaaGreatDoorQ24
import Derived.Test.YtcahejkcdcjjgaaGreatDoorRows
import Derived.ProofKit
import Derived.LaidMore
import Derived.OpenShut
import Derived.Stop.Joined
import Derived.Lay
set_option linter.all false
set_option maxRecDepth 99999
set_option maxHeartbeats 0
namespace Go.Proofs.YtcahejkcdcjjgaaGreatDoor
open Go.ChangeMaps Go.ChangeShapes Go.WideShapes Go.ChangeAt Go.WideMaps Go.WideElems Go.RowKit
def own:ownKnob Tryz.prog.godebug=none:=by kernel_rfl
def Fy:List (String × DataW Unit):=[("math/bits.deBruijn32tab",Rows.laid_math_bits_deBruijn32tab),("math/bits.deBruijn64tab",Rows.laid_math_bits_deBruijn64tab),("internal/strconv.uint64pow10",Rows.laid_internal_strconv_uint64pow10),("unicode/utf8.acceptRanges",Rows.laid_unicode_utf8_acceptRanges),("strconv.ErrRange",Rows.laid_strconv_ErrRange),("strconv.ErrSyntax",Rows.laid_strconv_ErrSyntax),("unicode/utf8.first",Rows.laid_unicode_utf8_first)]
def TL(a:Os)(args:Array Value):laidMetH Tryz.prog Fy ((World.laidAll Tryz.prog a Fy).forCall (λ_ _=>0) ⟨#[],args,[]⟩).memory:=by
 rw[MakeChecks.laidMetH_plain _ _ _ TS];exact laidMet_laidAll _ TS TS
def TM{W:World}(h:laidMetH Tryz.prog Fy W):Lib.TabIs Tryz.prog W "internal/strconv.uint64pow10" .u64 Lib.pow10Tab:=by
 rw[MakeChecks.laidMetH_plain _ _ _ TS]at h;obtain⟨ps,⟨i,u,e,f0,p0,q0,n,p,r,l,⟨j,v,f,f1,p1,q1,o,q,s,m,⟨k,w,g,f2,t,q2,b,c,d,a,_⟩,_⟩,_⟩,_⟩:=h;obtain rfl:=AP ((show Tryz.prog.globalNamed "internal/strconv.uint64pow10"=some 0 by kernel_rfl).symm.trans b);obtain rfl:=AP ((show(Tryz.prog.globals[0]?).map (·.type)=some 211 by kernel_rfl).symm.trans c);unfold Lib.TabIs;rw[d,<-Lib.cells_of_tab (show Tryz.prog.underlying 211=some (.array 20 163)by kernel_rfl) (show Tryz.prog.underlying 163=some (.int .u64)by kernel_rfl) TS TS a]
