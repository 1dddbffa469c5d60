import Derived.ProofKit
import Derived.LaidMore
import Derived.OpenShut
import Derived.Lay
import Derived.Test.YthnpdhlepglmlaaGreatDoorW48
import Derived.Test.YthnpdhlepglmlaaGreatDoorCards
import Derived.Test.YthnpdhlepglmlaaGreatDoorTie
set_option linter.all false
set_option maxRecDepth 99999
set_option maxHeartbeats 0
namespace Go.Proofs.YthnpdhlepglmlaaGreatDoor
section
open Go.ChangeMaps Go.ChangeShapes Go.WideShapes Go.ChangeAt Go.WideMaps Go.WideElems Go.RowKit
variable{W:World}
def own:ownKnob Tryz.prog.godebug=none:=by kernel_rfl
def LF:List (String × DataW Unit):=[("math/bits.deBruijn32tab",Rows.laid_math_bits_deBruijn32tab),("math/bits.deBruijn64tab",Rows.laid_math_bits_deBruijn64tab),("internal/strconv.uint64pow10",Rows.laid_internal_strconv_uint64pow10),("unicode/utf8.acceptRanges",Rows.laid_unicode_utf8_acceptRanges),("strconv.ErrRange",Rows.laid_strconv_ErrRange),("strconv.ErrSyntax",Rows.laid_strconv_ErrSyntax),("unicode/utf8.first",Rows.laid_unicode_utf8_first)]
def wU(os:Os)(args:Array Value):laidMetH Tryz.prog LF ((World.laidAll Tryz.prog os LF).forCall (λ_ _=>0) ⟨#[],args,[]⟩).memory:=by
 rw[MakeChecks.laidMetH_plain _ _ _ (by kernel_rfl)];exact laidMet_laidAll _ (by kernel_rfl) (by kernel_rfl)
def wV(h:laidMetH Tryz.prog LF W):Lib.TabIs Tryz.prog W "internal/strconv.uint64pow10" .u64 Lib.pow10Tab:=by
 rw[MakeChecks.laidMetH_plain _ _ _ (by kernel_rfl)]at h;obtain⟨ps,⟨g0,t,e,f0,p0,q0,m,o,q,k,⟨i,u,f,f1,p1,q1,n,p,r,l,⟨j,v,g,f2,s,q2,b,c,d,a,_⟩,_⟩,_⟩,_⟩:=h;obtain rfl:=Cg ((show Tryz.prog.globalNamed "internal/strconv.uint64pow10"=some 5 by kernel_rfl).symm.trans b);obtain rfl:=Cg ((show(Tryz.prog.globals[5]?).map (·.type)=some 337 by kernel_rfl).symm.trans c);unfold Lib.TabIs;rw[d,<-Lib.cells_of_tab (show Tryz.prog.underlying 337=some (.array 20 223)by kernel_rfl) (show Tryz.prog.underlying 223=some (.int .u64)by kernel_rfl) (by kernel_rfl) (by kernel_rfl) a]
def wW{H:Type}{enc:TypeId × Value->H}{P:Program}{f:Func}{s:ChangeSpec}{apart i l g:Bool}{W':World}{args:Array Value}{v:Value}{ds a:List (DataW H)}
(k:DataW.Whole enc P f.params.toList s.vars apart W args.toList ds a [])
(d:∀(b:Nat) (sp:Nat->Bool) (m:Bool),DataW.TrodAll enc P W' b sp m f.resultTypes.toList (v.resultList f.resultTypes.size) (s.fn H (ds++a)).results [])
(c:∀sp:Nat->Bool,DataW.TrodAll enc P W' 0 sp true f.params.toList args.toList (s.fn H (ds++a)).args [])
(e:∀sp:Nat->Bool,DataW.TrodVars enc P W' sp s.vars (s.fn H (ds++a)).vars [])
(hk:W.keptBut W' (·∈[]))
(n:∀(j:Nat) (t:TypeId) (r:Value),f.resultTypes[j]?=some t->(v.resultList f.resultTypes.size)[j]?=some r->Value.okWide P W' .any 0 t r):
 s.post enc P f apart i l g W args v W':=by
 refine⟨ds,a,[],[],[],[],k,d _ _ _,c _,e _,World.keptBut_mono (λp hp=>by cases hp) hk,λ_=>?_⟩;refine⟨n,_,_,([]++[])++[],⟨[]++[],[],trodAll_append (c _) (d _ _ _),e _,J,?_,?_⟩,?_⟩
 . intro b o hp;cases hp
 . intro _;exact List.nodup_nil
 . intro p hp _;cases hp
end
section
open Go.Proofs.Tryz renaming prog->B
open Proofs.Tryz
open Go.ChangeMaps Go.ChangeShapes Go.WideShapes Go.ChangeAt Go.WideMaps Go.WideElems Go.RowKit
def wX(os:Os)(A:os.Started)(H:Type)(enc:TypeId × Value->H):
 ReturnsInHanded {} Tryz.checked os 4 .any (λw args=>(Rows.solveSameSpec.pre enc B Tryz.f4 [] false w args/\laidMetH B LF w)/\sizedMet enc B Tryz.f4 (OpenSpec.ofChange Rows.solveSameSpec) false w args)
  (Rows.solveSameSpec.post enc B Tryz.f4 false true false false):=by
 refine returnsInHanded_of_change_and (C:=Tryz.checked) (X:=λw _=>laidMetH B LF w) (λ_ _ _ hh h=>h.of_heap hh) own A (by kernel_rfl) func4
  (ChangeSpec.witness_shaped (enc:=enc) (C:=Tryz.checked) (os:=os) (X:=λw _=>laidMetH B LF w) false (World.laidAll B os LF) #[.string ⟨#[]⟩,.string ⟨#[]⟩,.string ⟨#[]⟩,.int .i64 0] 8 (World.laidAll_os _ _ _) (World.shaped_of_ZipB (by kernel_rfl) (by kernel_rfl)) (by kernel_rfl) (by kernel_rfl) (by kernel_rfl) (wU os _)) ?_
 intro W base args ds N K d b _ R f _;have a:∀(j:Nat) t v,Tryz.f4.params[j]?=some t->args[j]?=some v->Value.okWide B W .any base t v:=d;have c:=b;obtain⟨p,q,hA0,g,rfl,P,Q⟩:=b;have hA:DataW.TrodAll enc B W 0 (λ_=>true) true Tryz.f4.params.toList args.toList ds p:=hA0;rw[params4]at hA a;obtain⟨D,E,F,G,d0,d1,L,M,p0,p1,S,T,rfl,rfl,rfl,i,k,l,m⟩:=trodAll_four hA;obtain⟨rfl,rfl⟩:=trodVars_none g;obtain⟨x,rfl,rfl,rfl,o⟩:=open_string underlying9 (a 0 9 D J J) i;obtain⟨y,rfl,rfl,rfl,r⟩:=open_string underlying9 (a 1 9 E J J) k;obtain⟨z,rfl,rfl,rfl,s⟩:=open_string underlying9 (a 2 9 F J J) l;obtain⟨u,rfl,rfl,rfl,I⟩:=open_int underlying3 (a 3 3 G J J) m;clear hA0 d;simp only[CJ]at c;refine(M3.wT x y z u W (wV f)).mono λe W' ⟨n,hb⟩=>?_;subst n;refine⟨_,J,?_⟩;exact wW c (λ_ _ _=>trodAll_mk1 (shut_bool underlying4 _)) (λsp=>trodAll_mk4 (shut_string underlying9 o) (shut_string underlying9 r) (shut_string underlying9 s) (shut_int underlying3 I)) (λ_=>rfl) (hb.frame _) (ok_one (by kernel_rfl) J (okWide_bool_mk underlying4 _))
def wY:joinedFacts B 4 Tryz.f4 Rows.solveSameSpec Rows.solveSameRow=true:=by unfold joinedFacts;simp only[Bool.and_eq_true];and_intros<;>as_aux_lemma=>kernel_rfl
def wZ:Rows.SolveSameSaid:=
 OpenClaim.holds_of_wide 4 Tryz.f4 J J J J J J J ⟨J,J,J,J,J⟩ J J J J J (by kernel_rfl) func4 wY
  (Be (by kernel_rfl)) (by unfold Func.isWrapper;first|(rw[BE EB];kernel_rfl)|(rw[BD EB];exact⟨J,J⟩))
  (λos a H enc _=>wX os a H enc)
end
open Go
theorem solveSame_card:Rows.SolveSameCardSaid:=
 Claim7.holds_tied_plain_at .later [] [.data,.data,.data,.data,.sentinel,.sentinel,.pinned] true Rows.solveSameCard.stood.harness true
  wZ (λ_ h=>by cases h) (by as_aux_lemma=>kernel_rfl) (λ_ h=>by cases h) solveSame_row_tie J ⟨J,J⟩ (by as_aux_lemma=>kernel_rfl) J
  (λf fn c d=>by
   obtain rfl:f=4:=Cg ((show Tryz.prog.funcNamed "surd/surdlaw07.SolveSame"=some 4 by as_aux_lemma=>kernel_rfl).symm.trans c) |>.symm
   obtain rfl:fn=Tryz.f4:=(Cg (Tryz.func4.symm.trans d)).symm;exact⟨by as_aux_lemma=>kernel_rfl,λj t a=>by
    rw[Tryz.params4]at a;have e:t∈[9,9,9,3]:=by simpa using Array.mem_of_getElem? a
    have b:([9,9,9,3].all λu=>!Tryz.prog.wantsStandIn u)=true:=by as_aux_lemma=>kernel_rfl
    exact(show Tryz.prog.wantsStandIn t=false by simpa using AM.1 b t e)⟩)
  (by as_aux_lemma=>kernel_rfl)
