import Derived.Test.YtdmmbgahnkbnaaaGreatDoorT47
import Derived.Test.YtdmmbgahnkbnaaaGreatDoorRows
import Derived.ProofKit
import Derived.LaidMore
import Derived.OpenShut
import Derived.Stop.Joined
import Derived.SizedLaws
import Derived.Lay
import Derived.Test.YtdmmbgahnkbnaaaGreatDoorCards
import Derived.Test.YtdmmbgahnkbnaaaGreatDoorTie
import Derived.SevenTiedAt
set_option linter.all false
set_option maxRecDepth 99999
set_option maxHeartbeats 0
open Go.Proofs.Tryz renaming prog->B
namespace Go.Proofs.YtdmmbgahnkbnaaaGreatDoor
open Go.ChangeMaps Go.ChangeShapes Go.WideShapes Go.ChangeAt Go.WideMaps Go.WideElems Go.RowKit
variable{W:World}
def own:ownKnob B.godebug=none:=by kernel_rfl
def K5:List (String × DataW Unit):=[("math/bits.deBruijn32tab",Rows.laid_math_bits_deBruijn32tab),("math/bits.deBruijn64tab",Rows.laid_math_bits_deBruijn64tab),("internal/strconv.uint64pow10",Rows.laid_internal_strconv_uint64pow10),("unicode/utf8.acceptRanges",Rows.laid_unicode_utf8_acceptRanges),("strconv.ErrRange",Rows.laid_strconv_ErrRange),("strconv.ErrSyntax",Rows.laid_strconv_ErrSyntax),("unicode/utf8.first",Rows.laid_unicode_utf8_first)]
def vG(os:Os)(args:Array Value):laidMetH B K5 ((World.laidAll B os K5).forCall (λ_ _=>0) ⟨#[],args,[]⟩).memory:=by
 rw[MakeChecks.laidMetH_plain _ _ _ (by kernel_rfl)];exact laidMet_laidAll _ (by kernel_rfl) (by kernel_rfl)
def vH(h:laidMetH B K5 W):Lib.TabIs B W "internal/strconv.uint64pow10" .u64 Lib.pow10Tab:=by
 rw[MakeChecks.laidMetH_plain _ _ _ (by kernel_rfl)]at h;obtain⟨ps,⟨g0,t,e,f0,p0,q0,m,o,q,k,⟨i,u,f,f1,p1,q1,n,p,r,l,⟨j,v,g,f2,s,q2,b,c,d,a,_⟩,_⟩,_⟩,_⟩:=h;obtain rfl:=Cu ((show B.globalNamed "internal/strconv.uint64pow10"=some 5 by kernel_rfl).symm.trans b);obtain rfl:=Cu ((show(B.globals[5]?).map (·.type)=some 311 by kernel_rfl).symm.trans c);unfold Lib.TabIs;rw[d,<-Lib.cells_of_tab (show B.underlying 311=some (.array 20 141)by kernel_rfl) (show B.underlying 141=some (.int .u64)by kernel_rfl) (by kernel_rfl) (by kernel_rfl) a]
def vJ{H:Type}{enc:TypeId × Value->H}{P:Program}{f:Func}{s:ChangeSpec}{apart i l g:Bool}{W':World}{args:Array Value}{v:Value}{ds a:List (DataW H)}
(k:DataW.Whole enc P f.params.toList s.vars apart W args.toList ds a [])
(d:∀(b:Nat) (sp:Nat->Bool) (m:Bool),DataW.TrodAll enc P W' b sp m f.resultTypes.toList (v.resultList f.resultTypes.size) (s.fn H (ds++a)).results [])
(c:∀sp:Nat->Bool,DataW.TrodAll enc P W' 0 sp true f.params.toList args.toList (s.fn H (ds++a)).args [])
(e:∀sp:Nat->Bool,DataW.TrodVars enc P W' sp s.vars (s.fn H (ds++a)).vars [])
(hk:W.keptBut W' (·∈[]))
(n:∀(j:Nat) (t:TypeId) (r:Value),f.resultTypes[j]?=some t->(v.resultList f.resultTypes.size)[j]?=some r->Value.okWide P W' .any 0 t r):
 s.post enc P f apart i l g W args v W':=by
 refine⟨ds,a,[],[],[],[],k,d _ _ _,c _,e _,World.keptBut_mono (λp hp=>by cases hp) hk,λ_=>?_⟩;refine⟨n,_,_,([]++[])++[],⟨[]++[],[],trodAll_append (c _) (d _ _ _),e _,J,?_,?_⟩,?_⟩
 . intro b o hp;cases hp
 . intro _;exact List.nodup_nil
 . intro p hp _;cases hp
def vK(os:Os)(z:os.Started)(H:Type)(enc:TypeId × Value->H):
 ReturnsInHanded {} Tryz.checked os 5 .any (λw args=>(Rows.rootLawsSpec.pre enc B Tryz.f5 [] false w args/\laidMetH B K5 w)/\sizedMet enc B Tryz.f5 (OpenSpec.ofChange Rows.rootLawsSpec) false w args)
  (Rows.rootLawsSpec.post enc B Tryz.f5 false true false false):=by
 refine returnsInHanded_of_change_and (C:=Tryz.checked) (X:=λw _=>laidMetH B K5 w) (λ_ _ _ hh h=>h.of_heap hh) own z (by kernel_rfl) Tryz.func5
  (ChangeSpec.witness_shaped (enc:=enc) (C:=Tryz.checked) (os:=os) (X:=λw _=>laidMetH B K5 w) false (World.laidAll B os K5) #[.string ⟨#[]⟩,.string ⟨#[]⟩,.string ⟨#[]⟩] 8 (World.laidAll_os _ _ _) (World.shaped_of_ZipB (by kernel_rfl) (by kernel_rfl)) (by kernel_rfl) (by kernel_rfl) (by kernel_rfl) (vG os _)) ?_
 intro W base args ds I F d b _ M f _;have a:∀(j:Nat) t v,Tryz.f5.params[j]?=some t->args[j]?=some v->Value.okWide B W .any base t v:=d;have c:=b;obtain⟨p,q,hA0,g,rfl,K,L⟩:=b;have hA:DataW.TrodAll enc B W 0 (λ_=>true) true Tryz.f5.params.toList args.toList ds p:=hA0;rw[Tryz.params5]at hA a;obtain⟨A,D,E,d0,d1,G,p0,p1,N,rfl,rfl,rfl,k,l,m⟩:=trodAll_three hA;obtain⟨rfl,rfl⟩:=trodVars_none g;obtain⟨u,rfl,rfl,rfl,o⟩:=open_string Tryz.underlying9 (a 0 9 A rfl rfl) k;obtain⟨x,rfl,rfl,rfl,r⟩:=open_string Tryz.underlying9 (a 1 9 D rfl rfl) l;obtain⟨y,rfl,rfl,rfl,s⟩:=open_string Tryz.underlying9 (a 2 9 E rfl rfl) m;clear hA0 d;simp only[CR]at c;refine(M3.vF u x y W (vH f)).mono λe W' ⟨n,i⟩=>?_;subst n;refine⟨_,rfl,?_⟩;exact vJ c (λ_ _ _=>trodAll_mk1 (shut_bool Tryz.underlying4 _)) (λsp=>trodAll_mk3 (shut_string Tryz.underlying9 o) (shut_string Tryz.underlying9 r) (shut_string Tryz.underlying9 s)) (λ_=>rfl) (i.frame _) (ok_one (by kernel_rfl) rfl (okWide_bool_mk Tryz.underlying4 _))
def vM:Rows.RootLawsSaid:=
 OpenClaim.holds_of_wide 5 Tryz.f5 rfl rfl rfl rfl rfl rfl rfl ⟨rfl,rfl,rfl,rfl,rfl⟩ rfl rfl rfl rfl rfl (by kernel_rfl) Tryz.func5 (by unfold joinedFacts;simp only[Bool.and_eq_true];and_intros<;>as_aux_lemma=>kernel_rfl)
  (Bj (by kernel_rfl)) (by unfold Func.isWrapper;first|(rw[BF EY];kernel_rfl)|(rw[BE EY];exact⟨rfl,rfl⟩))
  (λos a H enc _=>vK os a H enc)
theorem rootLaws_card:Rows.RootLawsCardSaid:=
 Claim7.holds_tied_plain_at .later [] [.data,.data,.data,.data,.sentinel,.sentinel,.pinned] true Rows.rootLawsCard.stood.harness true
  vM (λ_ h=>by cases h) (by as_aux_lemma=>kernel_rfl) (λ_ h=>by cases h) rootLaws_row_tie J ⟨J,J⟩ (by as_aux_lemma=>kernel_rfl) J
  (λf fn c d=>by
   obtain rfl:f=5:=Cu ((show B.funcNamed "surd/surdlaw06.RootLaws"=some 5 by as_aux_lemma=>kernel_rfl).symm.trans c) |>.symm
   obtain rfl:fn=Tryz.f5:=(Cu (Tryz.func5.symm.trans d)).symm;exact⟨by as_aux_lemma=>kernel_rfl,λj t a=>by
    rw[Tryz.params5]at a;have e:t∈[9,9,9]:=by simpa using Array.mem_of_getElem? a
    have b:([9,9,9].all λu=>!B.wantsStandIn u)=true:=by as_aux_lemma=>kernel_rfl
    exact(show B.wantsStandIn t=false by simpa using AN.1 b t e)⟩)
  (by as_aux_lemma=>kernel_rfl)
