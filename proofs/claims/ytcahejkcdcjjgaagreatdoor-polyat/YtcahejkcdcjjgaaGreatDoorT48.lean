import Derived.Test.YtcahejkcdcjjgaaGreatDoorT24
import Derived.Test.YtcahejkcdcjjgaaGreatDoorRows
import Derived.ProofKit
import Derived.LaidMore
import Derived.OpenShut
import Derived.Stop.Joined
import Derived.SizedLaws
import Derived.Lay
set_option maxRecDepth 100000
set_option maxHeartbeats 16000000
namespace Go.Proofs.YtcahejkcdcjjgaaGreatDoor
open Go.ChangeMaps Go.ChangeShapes Go.WideShapes Go.ChangeAt Go.WideMaps Go.WideElems Go.RowKit
variable{W:World}
theorem own:ownKnob Tryz.prog.godebug=none:=by kernel_rfl
def Ha:List (String × DataW Unit):=[("math/bits.deBruijn32tab",Rows.laid_math_bits_deBruijn32tab),("math/bits.deBruijn64tab",Rows.laid_math_bits_deBruijn64tab),("internal/strconv.uint64pow10",Rows.laid_internal_strconv_uint64pow10),("unicode/utf8.acceptRanges",Rows.laid_unicode_utf8_acceptRanges),("strconv.ErrRange",Rows.laid_strconv_ErrRange),("strconv.ErrSyntax",Rows.laid_strconv_ErrSyntax),("unicode/utf8.first",Rows.laid_unicode_utf8_first)]
theorem Zu(os:Os)(args:Array Value):laidMetH Tryz.prog Ha ((World.laidAll Tryz.prog os Ha).forCall (λ_ _=>0) ⟨#[],args,[]⟩).memory:=by
 rw[MakeChecks.laidMetH_plain _ _ _ (by kernel_rfl)];exact laidMet_laidAll _ (by kernel_rfl) (by kernel_rfl)
theorem Zv(h:laidMetH Tryz.prog Ha W):Lib.TabIs Tryz.prog W "internal/strconv.uint64pow10" .u64 Lib.pow10Tab:=by
 rw[MakeChecks.laidMetH_plain _ _ _ (by kernel_rfl)]at h;obtain⟨ps,⟨x,w,e,f0,t,q0,n,o,k,u,⟨i,j,s,f1,q,q1,f,l,y,v,⟨g,r,m,f2,p,q2,b,a,c,d,_⟩,_⟩,_⟩,_⟩:=h;obtain rfl:=A6 ((show Tryz.prog.globalNamed "internal/strconv.uint64pow10"=some 0 by kernel_rfl).symm.trans b);obtain rfl:=A6 ((show(Tryz.prog.globals[0]?).map (·.type)=some 211 by kernel_rfl).symm.trans a);unfold Lib.TabIs;rw[c,<-Lib.cells_of_tab (show Tryz.prog.underlying 211=some (.array 20 163)by kernel_rfl) (show Tryz.prog.underlying 163=some (.int .u64)by kernel_rfl) (by kernel_rfl) (by kernel_rfl) d]
theorem Zw{a:Type}{enc:TypeId × Value->a}{P:Program}{f:Func}{s:ChangeSpec}{k m q o:Bool}{W':World}{args:Array Value}{v:Value}{ds e:List (DataW a)}
(x:DataW.Whole enc P f.params.toList s.vars k W args.toList ds e [])
(l:∀(b:Nat) (d:Nat->Bool) (n:Bool),DataW.TrodAll enc P W' b d n f.resultTypes.toList (v.resultList f.resultTypes.size) (s.fn a (ds++e)).results [])
(i:∀d:Nat->Bool,DataW.TrodAll enc P W' 0 d true f.params.toList args.toList (s.fn a (ds++e)).args [])
(g:∀d:Nat->Bool,DataW.TrodVars enc P W' d s.vars (s.fn a (ds++e)).vars [])
(w:W.keptBut W' (·∈[]))
(u:∀(j:Nat) (t:TypeId) (r:Value),f.resultTypes[j]?=some t->(v.resultList f.resultTypes.size)[j]?=some r->Value.okWide P W' .any 0 t r):
 s.post enc P f k m q o W args v W':=by
 refine⟨ds,e,[],[],[],[],x,l _ _ _,i _,g _,World.keptBut_mono (λp c=>by cases c) w,λ_=>?_⟩;refine⟨u,_,_,([]++[])++[],⟨[]++[],[],trodAll_append (i _) (l _ _ _),g _,rfl,?_,?_⟩,?_⟩
 . intro b off c;cases c
 . intro _;exact List.nodup_nil
 . intro p c _;cases c
