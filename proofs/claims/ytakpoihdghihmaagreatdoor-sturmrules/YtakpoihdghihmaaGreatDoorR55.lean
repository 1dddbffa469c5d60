import Derived.Test.YtakpoihdghihmaaGreatDoorR24
import Derived.Test.YtakpoihdghihmaaGreatDoorRows
import Derived.ProofKit
import Derived.LaidMore
import Derived.OpenShut
import Derived.Stop.Joined
import Derived.SizedLaws
import Derived.Lay
import Derived.Test.YtakpoihdghihmaaGreatDoorR53
section
set_option maxRecDepth 100000
set_option maxHeartbeats 16000000
namespace Go.Proofs.YtakpoihdghihmaaGreatDoor
open Go.ChangeMaps Go.ChangeShapes Go.WideShapes Go.ChangeAt Go.WideMaps Go.WideElems Go.RowKit
theorem own:ownKnob Tryz.prog.godebug=none:=by kernel_rfl
def KM:List (String × DataW Unit):=[("math/bits.deBruijn32tab",Rows.laid_math_bits_deBruijn32tab),("math/bits.deBruijn64tab",Rows.laid_math_bits_deBruijn64tab),("internal/strconv.uint64pow10",Rows.laid_internal_strconv_uint64pow10),("unicode/utf8.acceptRanges",Rows.laid_unicode_utf8_acceptRanges),("strconv.ErrRange",Rows.laid_strconv_ErrRange),("strconv.ErrSyntax",Rows.laid_strconv_ErrSyntax),("unicode/utf8.first",Rows.laid_unicode_utf8_first)]
theorem iR(os:Os)(args:Array Value):laidMetH Tryz.prog KM ((World.laidAll Tryz.prog os KM).forCall (λ_ _=>0) ⟨#[],args,[]⟩).memory:=by
 rw[MakeChecks.laidMetH_plain _ _ _ (by kernel_rfl)];exact laidMet_laidAll _ (by kernel_rfl) (by kernel_rfl)
theorem iS{H:Type}{enc:TypeId × Value->H}{P:Program}{f:Func}{s:ChangeSpec}{d l n k:Bool}{W W':World}{args:Array Value}{v:Value}{ds a:List (DataW H)}
(m:DataW.Whole enc P f.params.toList s.vars d W args.toList ds a [])
(g:∀(b:Nat) (c:Nat->Bool) (o:Bool),DataW.TrodAll enc P W' b c o f.resultTypes.toList (v.resultList f.resultTypes.size) (s.fn H (ds++a)).results [])
(e:∀c:Nat->Bool,DataW.TrodAll enc P W' 0 c true f.params.toList args.toList (s.fn H (ds++a)).args [])
(i:∀c:Nat->Bool,DataW.TrodVars enc P W' c s.vars (s.fn H (ds++a)).vars [])
(q:W.keptBut W' (·∈[]))
(u:∀(j:Nat) (t:TypeId) (r:Value),f.resultTypes[j]?=some t->(v.resultList f.resultTypes.size)[j]?=some r->Value.okWide P W' .any 0 t r):
 s.post enc P f d l n k W args v W':=by
 refine⟨ds,a,[],[],[],[],m,g _ _ _,e _,i _,World.keptBut_mono (λp hp=>by cases hp) q,λ_=>?_⟩;refine⟨u,_,_,([]++[])++[],⟨[]++[],[],trodAll_append (e _) (g _ _ _),i _,rfl,?_,?_⟩,?_⟩
 . intro b off hp;cases hp
 . intro _;exact List.nodup_nil
 . intro p hp _;cases hp
end Go.Proofs.YtakpoihdghihmaaGreatDoor
end
open Go.Proofs.Tryz renaming prog->B
set_option maxRecDepth 100000
set_option maxHeartbeats 16000000
namespace Go.Proofs.YtakpoihdghihmaaGreatDoor
open Go.ChangeMaps Go.ChangeShapes Go.WideShapes Go.ChangeAt Go.WideMaps Go.WideElems Go.RowKit
theorem iT(os:Os)(F:os.Started)(H:Type)(enc:TypeId × Value->H):
 ReturnsInHanded {} Tryz.checked os 7 .any (λw args=>(Rows.sturmRulesSpec.pre enc B Tryz.f7 [] false w args/\laidMetH B KM w)/\sizedMet enc B Tryz.f7 (OpenSpec.ofChange Rows.sturmRulesSpec) false w args)
  (Rows.sturmRulesSpec.post enc B Tryz.f7 false true false false):=by
 refine returnsInHanded_of_change_and (C:=Tryz.checked) (X:=λw _=>laidMetH B KM w) (λ_ _ _ r h=>h.of_heap r) own F (by kernel_rfl) Tryz.func7
  (ChangeSpec.witness_shaped (enc:=enc) (C:=Tryz.checked) (os:=os) (X:=λw _=>laidMetH B KM w) false (World.laidAll B os KM) #[.string ⟨#[]⟩,.string ⟨#[]⟩,.string ⟨#[]⟩,.string ⟨#[]⟩] 8 (World.laidAll_os _ _ _) (World.shaped_of_ZipB (by kernel_rfl) (by kernel_rfl)) (by kernel_rfl) (by kernel_rfl) (by kernel_rfl) (iR os _)) ?_
 intro W base args ds Q M f c _ _ R _;have a:∀(j:Nat) t v,Tryz.f7.params[j]?=some t->args[j]?=some v->Value.okWide B W .any base t v:=f;have d:=c;obtain⟨p,q,hA0,g,rfl,S,T⟩:=c;have b:DataW.TrodAll enc B W 0 (λ_=>true) true Tryz.f7.params.toList args.toList ds p:=hA0;rw[Tryz.params7]at b a;obtain⟨G,I,K,L,d0,d1,N,P,p0,U,V,p3,rfl,rfl,rfl,k,l,m,n⟩:=trodAll_four b;obtain⟨rfl,rfl⟩:=trodVars_none g;obtain⟨z,rfl,rfl,rfl,s⟩:=open_string Tryz.underlying9 (a 0 9 G rfl rfl) k;obtain⟨A,rfl,rfl,rfl,u⟩:=open_string Tryz.underlying9 (a 1 9 I rfl rfl) l;obtain⟨D,rfl,rfl,rfl,x⟩:=open_string Tryz.underlying9 (a 2 9 K rfl rfl) m;obtain⟨E,rfl,rfl,rfl,y⟩:=open_string Tryz.underlying9 (a 3 9 L rfl rfl) n;clear hA0 f;simp only[C4]at d;refine(M3.iQ z A D E W).mono λe W' ⟨o,i⟩=>?_;subst o;refine⟨_,rfl,?_⟩;exact iS d (λ_ _ _=>trodAll_mk1 (shut_bool Tryz.underlying4 _)) (λsp=>trodAll_mk4 (shut_string Tryz.underlying9 s) (shut_string Tryz.underlying9 u) (shut_string Tryz.underlying9 x) (shut_string Tryz.underlying9 y)) (λ_=>rfl) (i.frame _) (ok_one (by kernel_rfl) rfl (okWide_bool_mk Tryz.underlying4 _))
theorem iU:Rows.SturmRulesSaid:=
 OpenClaim.holds_of_wide 7 Tryz.f7 rfl rfl rfl rfl rfl rfl rfl ⟨rfl,rfl,rfl,rfl,rfl⟩ rfl rfl rfl rfl rfl (by kernel_rfl) Tryz.func7 (by kernel_rfl)
  (Be (by kernel_rfl)) (by unfold Func.isWrapper;first|(rw[BC dk];kernel_rfl)|(rw[BB dk];exact⟨rfl,rfl⟩))
  (λos a H enc _=>iT os a H enc)
