import Derived.ProofKit
import Derived.LaidMore
import Derived.OpenShut
import Derived.Lay
import Derived.Test.YthnpdhlepglmlaaGreatDoorV48
import Derived.Test.YthnpdhlepglmlaaGreatDoorCards
import Derived.Test.YthnpdhlepglmlaaGreatDoorTie
set_option linter.all false
set_option maxRecDepth 99999
set_option maxHeartbeats 0
namespace Go.Proofs.YthnpdhlepglmlaaGreatDoor
section
open Go.ChangeMaps Go.ChangeShapes Go.WideShapes Go.ChangeAt Go.WideMaps Go.WideElems Go.RowKit
variable{W:World}
def own:ownKnob Tryz.prog.godebug=none:=by kernel_rfl
def Lm:List (String × DataW Unit):=[("math/bits.deBruijn32tab",Rows.laid_math_bits_deBruijn32tab),("math/bits.deBruijn64tab",Rows.laid_math_bits_deBruijn64tab),("internal/strconv.uint64pow10",Rows.laid_internal_strconv_uint64pow10),("unicode/utf8.acceptRanges",Rows.laid_unicode_utf8_acceptRanges),("strconv.ErrRange",Rows.laid_strconv_ErrRange),("strconv.ErrSyntax",Rows.laid_strconv_ErrSyntax),("unicode/utf8.first",Rows.laid_unicode_utf8_first)]
def xq(os:Os)(args:Array Value):laidMetH Tryz.prog Lm ((World.laidAll Tryz.prog os Lm).forCall (λ_ _=>0) ⟨#[],args,[]⟩).memory:=by
 rw[MakeChecks.laidMetH_plain _ _ _ v0];exact laidMet_laidAll _ v0 v0
def xv(h:laidMetH Tryz.prog Lm W):Lib.TabIs Tryz.prog W "internal/strconv.uint64pow10" .u64 Lib.pow10Tab:=by
 rw[MakeChecks.laidMetH_plain _ _ _ v0]at h;obtain⟨ps,⟨g0,t,e,f0,p0,q0,m,o,q,k,⟨i,u,f,f1,p1,q1,n,p,r,l,⟨j,v,g,f2,s,q2,b,c,d,a,_⟩,_⟩,_⟩,_⟩:=h;obtain rfl:=Cw ((show Tryz.prog.globalNamed "internal/strconv.uint64pow10"=some 5 by kernel_rfl).symm.trans b);obtain rfl:=Cw ((show(Tryz.prog.globals[5]?).map (·.type)=some 337 by kernel_rfl).symm.trans c);unfold Lib.TabIs;rw[d,<-Lib.cells_of_tab (show Tryz.prog.underlying 337=some (.array 20 223)by kernel_rfl) (show Tryz.prog.underlying 223=some (.int .u64)by kernel_rfl) v0 v0 a]
def xw{H:Type}{enc:TypeId × Value->H}{P:Program}{f:Func}{s:ChangeSpec}{apart i l g:Bool}{W':World}{args:Array Value}{v:Value}{ds a:List (DataW H)}
(k:DataW.Whole enc P f.params.toList s.vars apart W args.toList ds a [])
(d:∀(b:Nat) (sp:Nat->Bool) (m:Bool),DataW.TrodAll enc P W' b sp m f.resultTypes.toList (v.resultList f.resultTypes.size) (s.fn H (ds++a)).results [])
(c:∀sp:Nat->Bool,DataW.TrodAll enc P W' 0 sp true f.params.toList args.toList (s.fn H (ds++a)).args [])
(e:∀sp:Nat->Bool,DataW.TrodVars enc P W' sp s.vars (s.fn H (ds++a)).vars [])
(hk:W.keptBut W' (·∈[]))
(n:∀(j:Nat) (t:TypeId) (r:Value),f.resultTypes[j]?=some t->(v.resultList f.resultTypes.size)[j]?=some r->Value.okWide P W' .any 0 t r):
 s.post enc P f apart i l g W args v W':=by
 refine⟨ds,a,[],[],[],[],k,d _ _ _,c _,e _,World.keptBut_mono (λp hp=>by cases hp) hk,λ_=>?_⟩;refine⟨n,_,_,([]++[])++[],⟨[]++[],[],trodAll_append (c _) (d _ _ _),e _,J,?_,?_⟩,?_⟩
 . intro b off hp;cases hp
 . intro _;exact List.nodup_nil
 . intro p hp _;cases hp
end
section
open Go.Proofs.Tryz renaming prog->B
open Proofs.Tryz
open Go.ChangeMaps Go.ChangeShapes Go.WideShapes Go.ChangeAt Go.WideMaps Go.WideElems Go.RowKit
def xx(os:Os)(D:os.Started)(H:Type)(enc:TypeId × Value->H):
 ReturnsInHanded {} Tryz.checked os 5 .any (λw args=>(Rows.solveHoldsSpec.pre enc B Tryz.f5 [] false w args/\laidMetH B Lm w)/\sizedMet enc B Tryz.f5 (OpenSpec.ofChange Rows.solveHoldsSpec) false w args)
  (Rows.solveHoldsSpec.post enc B Tryz.f5 false true false false):=by
 refine returnsInHanded_of_change_and (C:=Tryz.checked) (X:=λw _=>laidMetH B Lm w) (λ_ _ _ hh h=>h.of_heap hh) own D v0 func5
  (ChangeSpec.witness_shaped (enc:=enc) (C:=Tryz.checked) (os:=os) (X:=λw _=>laidMetH B Lm w) false (World.laidAll B os Lm) #[.string ⟨#[]⟩,.string ⟨#[]⟩,.string ⟨#[]⟩,.string ⟨#[]⟩] 8 (World.laidAll_os _ _ _) (World.shaped_of_ZipB v0 v0) v0 v0 v0 (xq os _)) ?_
 intro W base args ds N K d b _ R f _;have a:∀(j:Nat) t v,Tryz.f5.params[j]?=some t->args[j]?=some v->Value.okWide B W .any base t v:=d;have c:=b;obtain⟨p,q,hA0,g,rfl,P,Q⟩:=b;have hA:DataW.TrodAll enc B W 0 (λ_=>true) true Tryz.f5.params.toList args.toList ds p:=hA0;rw[params5]at hA a;obtain⟨E,F,G,I,d0,d1,L,M,p0,p1,S,T,rfl,rfl,rfl,i,k,l,m⟩:=trodAll_four hA;obtain⟨rfl,rfl⟩:=trodVars_none g;obtain⟨x,rfl,rfl,rfl,o⟩:=open_string underlying9 (a 0 9 E J J) i;obtain⟨y,rfl,rfl,rfl,r⟩:=open_string underlying9 (a 1 9 F J J) k;obtain⟨z,rfl,rfl,rfl,s⟩:=open_string underlying9 (a 2 9 G J J) l;obtain⟨A,rfl,rfl,rfl,u⟩:=open_string underlying9 (a 3 9 I J J) m;clear hA0 d;simp only[C7]at c;refine(M3.xp x y z A W (xv f)).mono λe W' ⟨n,hb⟩=>?_;subst n;refine⟨_,J,?_⟩;exact xw c (λ_ _ _=>trodAll_mk1 (shut_bool underlying4 _)) (λsp=>trodAll_mk4 (shut_string underlying9 o) (shut_string underlying9 r) (shut_string underlying9 s) (shut_string underlying9 u)) (λ_=>rfl) (hb.frame _) (ok_one v0 J (okWide_bool_mk underlying4 _))
def xy:joinedFacts B 5 Tryz.f5 Rows.solveHoldsSpec Rows.solveHoldsRow=true:=by unfold joinedFacts;simp only[Bool.and_eq_true];and_intros<;>as_aux_lemma=>kernel_rfl
def xz:Rows.SolveHoldsSaid:=
 OpenClaim.holds_of_wide 5 Tryz.f5 J J J J J J J ⟨J,J,J,J,J⟩ J J J J J v0 func5 xy
  (BW v0) (by unfold Func.isWrapper;first|(rw[BF EF];kernel_rfl)|(rw[BE EF];exact⟨J,J⟩))
  (λos a H enc _=>xx os a H enc)
end
open Go
theorem solveHolds_card:Rows.SolveHoldsCardSaid:=
 Claim7.holds_tied_plain_at .later [] [.data,.data,.data,.data,.sentinel,.sentinel,.pinned] true Rows.solveHoldsCard.stood.harness true
  xz (λ_ h=>by cases h) v0 (λ_ h=>by cases h) solveHolds_row_tie J ⟨J,J⟩ v0 J
  (λf fn c d=>by
   obtain rfl:f=5:=Cw ((show Tryz.prog.funcNamed "surd/surdlaw07.SolveHolds"=some 5 by as_aux_lemma=>kernel_rfl).symm.trans c) |>.symm
   obtain rfl:fn=Tryz.f5:=(Cw (Tryz.func5.symm.trans d)).symm;exact⟨v0,λj t a=>by
    rw[Tryz.params5]at a;have e:t∈[9,9,9,9]:=by simpa using Array.mem_of_getElem? a
    have b:([9,9,9,9].all λu=>!Tryz.prog.wantsStandIn u)=true:=by as_aux_lemma=>kernel_rfl
    exact(show Tryz.prog.wantsStandIn t=false by simpa using AZ.1 b t e)⟩)
  v0
