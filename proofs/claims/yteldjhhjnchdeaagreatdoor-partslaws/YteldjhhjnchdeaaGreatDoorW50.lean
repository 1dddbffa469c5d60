import Derived.Test.YteldjhhjnchdeaaGreatDoorW48
import Derived.Test.YteldjhhjnchdeaaGreatDoorW49
open Go.Proofs.Tryz renaming prog->B
set_option maxRecDepth 100000
set_option maxHeartbeats 16000000
namespace Go.Proofs.YteldjhhjnchdeaaGreatDoor
open Go.ChangeMaps Go.ChangeShapes Go.WideShapes Go.ChangeAt Go.WideMaps Go.WideElems Go.RowKit
theorem dk(os:Os)(D:os.Started)(H:Type)(enc:TypeId × Value->H):
 ReturnsInHanded {} Tryz.checked os 6 .any (λw args=>(Rows.partsLawsSpec.pre enc B Tryz.f6 [] false w args/\laidMetH B Hv w)/\sizedMet enc B Tryz.f6 (OpenSpec.ofChange Rows.partsLawsSpec) false w args)
  (Rows.partsLawsSpec.post enc B Tryz.f6 false true false false):=by
 refine returnsInHanded_of_change_and (C:=Tryz.checked) (X:=λw _=>laidMetH B Hv w) (λ_ _ _ r h=>h.of_heap r) own D (by kernel_rfl) Tryz.func6
  (ChangeSpec.witness_shaped (enc:=enc) (C:=Tryz.checked) (os:=os) (X:=λw _=>laidMetH B Hv w) false (World.laidAll B os Hv) #[.string ⟨#[]⟩,.string ⟨#[]⟩,.string ⟨#[]⟩] 8 (World.laidAll_os _ _ _) (World.shaped_of_ZipB (by kernel_rfl) (by kernel_rfl)) (by kernel_rfl) (by kernel_rfl) (by kernel_rfl) (dY os _)) ?_
 intro W base args ds L I f c _ P g _;have a:∀(j:Nat) t v,Tryz.f6.params[j]?=some t->args[j]?=some v->Value.okWide B W .any base t v:=f;have d:=c;obtain⟨p,q,hA0,i,rfl,M,N⟩:=c;have b:DataW.TrodAll enc B W 0 (λ_=>true) true Tryz.f6.params.toList args.toList ds p:=hA0;rw[Tryz.params6]at b a;obtain⟨E,F,G,d0,d1,K,Q,R,S,rfl,rfl,rfl,l,m,n⟩:=trodAll_three b;obtain⟨rfl,rfl⟩:=trodVars_none i;obtain⟨y,rfl,rfl,rfl,s⟩:=open_string Tryz.underlying9 (a 0 9 E rfl rfl) l;obtain⟨z,rfl,rfl,rfl,u⟩:=open_string Tryz.underlying9 (a 1 9 F rfl rfl) m;obtain⟨A,rfl,rfl,rfl,x⟩:=open_string Tryz.underlying9 (a 2 9 G rfl rfl) n;clear hA0 f;simp only[CW]at d;refine(M3.dX y z A W (dZ g)).mono λe W' ⟨o,k⟩=>?_;subst o;refine⟨_,rfl,?_⟩;exact dc d (λ_ _ _=>trodAll_mk1 (shut_bool Tryz.underlying4 _)) (λT=>trodAll_mk3 (shut_string Tryz.underlying9 s) (shut_string Tryz.underlying9 u) (shut_string Tryz.underlying9 x)) (λ_=>rfl) (k.frame _) (ok_one (by kernel_rfl) rfl (okWide_bool_mk Tryz.underlying4 _))
theorem dl:Rows.PartsLawsSaid:=
 OpenClaim.holds_of_wide 6 Tryz.f6 rfl rfl rfl rfl rfl rfl rfl ⟨rfl,rfl,rfl,rfl,rfl⟩ rfl rfl rfl rfl rfl (by kernel_rfl) Tryz.func6 (by kernel_rfl)
  (Be (by kernel_rfl)) (by unfold Func.isWrapper;first|(rw[BJ Dk];kernel_rfl)|(rw[BH Dk];exact⟨rfl,rfl⟩))
  (λos a H enc _=>dk os a H enc)
