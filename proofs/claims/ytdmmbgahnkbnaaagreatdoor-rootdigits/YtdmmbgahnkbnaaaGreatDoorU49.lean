import Derived.Test.YtdmmbgahnkbnaaaGreatDoorU47
import Derived.Test.YtdmmbgahnkbnaaaGreatDoorU48
set_option linter.all false
open Go.Proofs.Tryz renaming prog->B
set_option maxRecDepth 99999
set_option maxHeartbeats 0
namespace Go.Proofs.YtdmmbgahnkbnaaaGreatDoor
open Go.ChangeMaps Go.ChangeShapes Go.WideShapes Go.ChangeAt Go.WideMaps Go.WideElems Go.RowKit
def tZ(os:Os)(y:os.Started)(H:Type)(enc:TypeId × Value->H):
 ReturnsInHanded {} Tryz.checked os 7 .any (λw args=>(Rows.rootDigitsSpec.pre enc B Tryz.f7 [] false w args/\laidMetH B Kw w)/\sizedMet enc B Tryz.f7 (OpenSpec.ofChange Rows.rootDigitsSpec) false w args)
  (Rows.rootDigitsSpec.post enc B Tryz.f7 false true false false):=by
 refine returnsInHanded_of_change_and (C:=Tryz.checked) (X:=λw _=>laidMetH B Kw w) (λ_ _ _ hh h=>h.of_heap hh) own y (by kernel_rfl) Tryz.func7
  (ChangeSpec.witness_shaped (enc:=enc) (C:=Tryz.checked) (os:=os) (X:=λw _=>laidMetH B Kw w) false (World.laidAll B os Kw) #[.string ⟨#[]⟩,.string ⟨#[]⟩,.int .i64 0] 8 (World.laidAll_os _ _ _) (World.shaped_of_ZipB (by kernel_rfl) (by kernel_rfl)) (by kernel_rfl) (by kernel_rfl) (by kernel_rfl) (tW os _)) ?_
 intro W base args ds I F d b _ M f _;have a:∀(j:Nat) t v,Tryz.f7.params[j]?=some t->args[j]?=some v->Value.okWide B W .any base t v:=d;have c:=b;obtain⟨p,q,hA0,g,rfl,K,L⟩:=b;have hA:DataW.TrodAll enc B W 0 (λ_=>true) true Tryz.f7.params.toList args.toList ds p:=hA0;rw[Tryz.params7]at hA a;obtain⟨z,A,D,d0,d1,G,p0,p1,N,rfl,rfl,rfl,k,l,m⟩:=trodAll_three hA;obtain⟨rfl,rfl⟩:=trodVars_none g;obtain⟨u,rfl,rfl,rfl,o⟩:=open_string Tryz.underlying9 (a 0 9 z rfl rfl) k;obtain⟨x,rfl,rfl,rfl,r⟩:=open_string Tryz.underlying9 (a 1 9 A rfl rfl) l;obtain⟨s,rfl,rfl,rfl,E⟩:=open_int Tryz.underlying3 (a 2 3 D rfl rfl) m;clear hA0 d;simp only[CC]at c;refine(M3.tV u x s W (tX f)).mono λe W' ⟨n,i⟩=>?_;subst n;refine⟨_,rfl,?_⟩;exact tY c (λ_ _ _=>trodAll_mk1 (shut_bool Tryz.underlying4 _)) (λsp=>trodAll_mk3 (shut_string Tryz.underlying9 o) (shut_string Tryz.underlying9 r) (shut_int Tryz.underlying3 E)) (λ_=>rfl) (i.frame _) (ok_one (by kernel_rfl) rfl (okWide_bool_mk Tryz.underlying4 _))
def th:Rows.RootDigitsSaid:=
 OpenClaim.holds_of_wide 7 Tryz.f7 rfl rfl rfl rfl rfl rfl rfl ⟨rfl,rfl,rfl,rfl,rfl⟩ rfl rfl rfl rfl rfl (by kernel_rfl) Tryz.func7 (by unfold joinedFacts;simp only[Bool.and_eq_true];and_intros<;>as_aux_lemma=>kernel_rfl)
  (BZ (by kernel_rfl)) (by unfold Func.isWrapper;first|(rw[BH EU];kernel_rfl)|(rw[BG EU];exact⟨rfl,rfl⟩))
  (λos a H enc _=>tZ os a H enc)
