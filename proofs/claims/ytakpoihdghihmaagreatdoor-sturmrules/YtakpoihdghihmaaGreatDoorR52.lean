import Derived.Test.YtakpoihdghihmaaGreatDoorR50
import Derived.Test.YtakpoihdghihmaaGreatDoorR51
open Go.Proofs.Tryz renaming prog->B
set_option maxRecDepth 100000
set_option maxHeartbeats 16000000
namespace Go.Proofs.YtakpoihdghihmaaGreatDoor
open Go.ChangeMaps Go.ChangeShapes Go.WideShapes Go.ChangeAt Go.WideMaps Go.WideElems Go.RowKit
theorem iY(os:Os)(F:os.Started)(H:Type)(enc:TypeId × Value->H):
 ReturnsInHanded {} Tryz.checked os 7 .any (λw args=>(Rows.sturmRulesSpec.pre enc B Tryz.f7 [] false w args/\laidMetH B KI w)/\sizedMet enc B Tryz.f7 (OpenSpec.ofChange Rows.sturmRulesSpec) false w args)
  (Rows.sturmRulesSpec.post enc B Tryz.f7 false true false false):=by
 refine returnsInHanded_of_change_and (C:=Tryz.checked) (X:=λw _=>laidMetH B KI w) (λ_ _ _ r h=>h.of_heap r) own F (by kernel_rfl) Tryz.func7
  (ChangeSpec.witness_shaped (enc:=enc) (C:=Tryz.checked) (os:=os) (X:=λw _=>laidMetH B KI w) false (World.laidAll B os KI) #[.string ⟨#[]⟩,.string ⟨#[]⟩,.string ⟨#[]⟩,.string ⟨#[]⟩] 8 (World.laidAll_os _ _ _) (World.shaped_of_ZipB (by kernel_rfl) (by kernel_rfl)) (by kernel_rfl) (by kernel_rfl) (by kernel_rfl) (iW os _)) ?_
 intro W base args ds Q M f c _ _ R _;have a:∀(j:Nat) t v,Tryz.f7.params[j]?=some t->args[j]?=some v->Value.okWide B W .any base t v:=f;have d:=c;obtain⟨p,q,hA0,g,rfl,S,T⟩:=c;have b:DataW.TrodAll enc B W 0 (λ_=>true) true Tryz.f7.params.toList args.toList ds p:=hA0;rw[Tryz.params7]at b a;obtain⟨G,I,K,L,d0,d1,N,P,p0,U,V,p3,rfl,rfl,rfl,k,l,m,n⟩:=trodAll_four b;obtain⟨rfl,rfl⟩:=trodVars_none g;obtain⟨z,rfl,rfl,rfl,s⟩:=open_string Tryz.underlying9 (a 0 9 G rfl rfl) k;obtain⟨A,rfl,rfl,rfl,u⟩:=open_string Tryz.underlying9 (a 1 9 I rfl rfl) l;obtain⟨D,rfl,rfl,rfl,x⟩:=open_string Tryz.underlying9 (a 2 9 K rfl rfl) m;obtain⟨E,rfl,rfl,rfl,y⟩:=open_string Tryz.underlying9 (a 3 9 L rfl rfl) n;clear hA0 f;simp only[C4]at d;refine(M3.iV z A D E W).mono λe W' ⟨o,i⟩=>?_;subst o;refine⟨_,rfl,?_⟩;exact iX d (λ_ _ _=>trodAll_mk1 (shut_bool Tryz.underlying4 _)) (λsp=>trodAll_mk4 (shut_string Tryz.underlying9 s) (shut_string Tryz.underlying9 u) (shut_string Tryz.underlying9 x) (shut_string Tryz.underlying9 y)) (λ_=>rfl) (i.frame _) (ok_one (by kernel_rfl) rfl (okWide_bool_mk Tryz.underlying4 _))
theorem iZ:Rows.SturmRulesSaid:=
 OpenClaim.holds_of_wide 7 Tryz.f7 rfl rfl rfl rfl rfl rfl rfl ⟨rfl,rfl,rfl,rfl,rfl⟩ rfl rfl rfl rfl rfl (by kernel_rfl) Tryz.func7 (by kernel_rfl)
  (Be (by kernel_rfl)) (by unfold Func.isWrapper;first|(rw[BC dk];kernel_rfl)|(rw[BA dk];exact⟨rfl,rfl⟩))
  (λos a H enc _=>iY os a H enc)
