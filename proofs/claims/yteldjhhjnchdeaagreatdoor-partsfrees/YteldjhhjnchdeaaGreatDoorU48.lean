import Derived.Test.YteldjhhjnchdeaaGreatDoorU24
import Derived.Test.YteldjhhjnchdeaaGreatDoorRows
import Derived.ProofKit
import Derived.LaidMore
import Derived.OpenShut
import Derived.Stop.Joined
import Derived.SizedLaws
import Derived.Lay
set_option maxRecDepth 100000
set_option maxHeartbeats 16000000
namespace Go.Proofs.YteldjhhjnchdeaaGreatDoor
open Go.ChangeMaps Go.ChangeShapes Go.WideShapes Go.ChangeAt Go.WideMaps Go.WideElems Go.RowKit
variable{W:World}
theorem own:ownKnob Tryz.prog.godebug=none:=by kernel_rfl
def I8:List (String × DataW Unit):=[("math/bits.deBruijn32tab",Rows.laid_math_bits_deBruijn32tab),("math/bits.deBruijn64tab",Rows.laid_math_bits_deBruijn64tab),("internal/strconv.uint64pow10",Rows.laid_internal_strconv_uint64pow10),("unicode/utf8.acceptRanges",Rows.laid_unicode_utf8_acceptRanges),("strconv.ErrRange",Rows.laid_strconv_ErrRange),("strconv.ErrSyntax",Rows.laid_strconv_ErrSyntax),("unicode/utf8.first",Rows.laid_unicode_utf8_first)]
theorem gV(os:Os)(args:Array Value):laidMetH Tryz.prog I8 ((World.laidAll Tryz.prog os I8).forCall (λ_ _=>0) ⟨#[],args,[]⟩).memory:=by
 rw[MakeChecks.laidMetH_plain _ _ _ (by kernel_rfl)];exact laidMet_laidAll _ (by kernel_rfl) (by kernel_rfl)
theorem gW(h:laidMetH Tryz.prog I8 W):Lib.TabIs Tryz.prog W "internal/strconv.uint64pow10" .u64 Lib.pow10Tab:=by
 rw[MakeChecks.laidMetH_plain _ _ _ (by kernel_rfl)]at h;obtain⟨ps,⟨i,w,e,f0,t,q0,n,p,r,l,⟨j,x,f,f1,u,q1,o,q,s,m,⟨k,y,g,f2,v,q2,b,c,d,a,_⟩,_⟩,_⟩,_⟩:=h;obtain rfl:=Cg ((show Tryz.prog.globalNamed "internal/strconv.uint64pow10"=some 0 by kernel_rfl).symm.trans b);obtain rfl:=Cg ((show(Tryz.prog.globals[0]?).map (·.type)=some 184 by kernel_rfl).symm.trans c);unfold Lib.TabIs;rw[d,<-Lib.cells_of_tab (show Tryz.prog.underlying 184=some (.array 20 156)by kernel_rfl) (show Tryz.prog.underlying 156=some (.int .u64)by kernel_rfl) (by kernel_rfl) (by kernel_rfl) a]
theorem gX{H:Type}{enc:TypeId × Value->H}{P:Program}{f:Func}{s:ChangeSpec}{d l n k:Bool}{W':World}{args:Array Value}{v:Value}{ds a:List (DataW H)}
(m:DataW.Whole enc P f.params.toList s.vars d W args.toList ds a [])
(g:∀(b:Nat) (c:Nat->Bool) (o:Bool),DataW.TrodAll enc P W' b c o f.resultTypes.toList (v.resultList f.resultTypes.size) (s.fn H (ds++a)).results [])
(e:∀c:Nat->Bool,DataW.TrodAll enc P W' 0 c true f.params.toList args.toList (s.fn H (ds++a)).args [])
(i:∀c:Nat->Bool,DataW.TrodVars enc P W' c s.vars (s.fn H (ds++a)).vars [])
(q:W.keptBut W' (·∈[]))
(u:∀(j:Nat) (t:TypeId) (r:Value),f.resultTypes[j]?=some t->(v.resultList f.resultTypes.size)[j]?=some r->Value.okWide P W' .any 0 t r):
 s.post enc P f d l n k W args v W':=by
 refine⟨ds,a,[],[],[],[],m,g _ _ _,e _,i _,World.keptBut_mono (λp hp=>by cases hp) q,λ_=>?_⟩;refine⟨u,_,_,([]++[])++[],⟨[]++[],[],trodAll_append (e _) (g _ _ _),i _,rfl,?_,?_⟩,?_⟩
 . intro b off hp;cases hp
 . intro _;exact List.nodup_nil
 . intro p hp _;cases hp
