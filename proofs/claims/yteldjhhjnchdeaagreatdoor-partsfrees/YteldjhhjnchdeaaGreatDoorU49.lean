import Derived.Test.YteldjhhjnchdeaaGreatDoorU47
import Derived.Test.YteldjhhjnchdeaaGreatDoorU48
open Go.Proofs.Tryz renaming prog->B
set_option maxRecDepth 100000
set_option maxHeartbeats 16000000
namespace Go.Proofs.YteldjhhjnchdeaaGreatDoor
open Go.ChangeMaps Go.ChangeShapes Go.WideShapes Go.ChangeAt Go.WideMaps Go.WideElems Go.RowKit
theorem gY(os:Os)(D:os.Started)(H:Type)(enc:TypeId × Value->H):
 ReturnsInHanded {} Tryz.checked os 4 .any (λw args=>(Rows.partsFreesSpec.pre enc B Tryz.f4 [] false w args/\laidMetH B I8 w)/\sizedMet enc B Tryz.f4 (OpenSpec.ofChange Rows.partsFreesSpec) false w args)
  (Rows.partsFreesSpec.post enc B Tryz.f4 false true false false):=by
 refine returnsInHanded_of_change_and (C:=Tryz.checked) (X:=λw _=>laidMetH B I8 w) (λ_ _ _ y h=>h.of_heap y) own D (by kernel_rfl) Tryz.func4
  (ChangeSpec.witness_shaped (enc:=enc) (C:=Tryz.checked) (os:=os) (X:=λw _=>laidMetH B I8 w) false (World.laidAll B os I8) #[.string ⟨#[]⟩,.string ⟨#[]⟩] 8 (World.laidAll_os _ _ _) (World.shaped_of_ZipB (by kernel_rfl) (by kernel_rfl)) (by kernel_rfl) (by kernel_rfl) (by kernel_rfl) (gV os _)) ?_
 intro W base args ds I G k f _ i n _;have a:∀(j:Nat) t v,Tryz.f4.params[j]?=some t->args[j]?=some v->Value.okWide B W .any base t v:=k;have g:=f;obtain⟨p,q,hA0,o,rfl,K,L⟩:=f;have d:DataW.TrodAll enc B W 0 (λ_=>true) true Tryz.f4.params.toList args.toList ds p:=hA0;rw[Tryz.params4]at d a;obtain⟨E,F,d0,d1,M,N,rfl,rfl,rfl,s,u⟩:=trodAll_two d;obtain⟨rfl,rfl⟩:=trodVars_none o;obtain⟨b,rfl,rfl,rfl,z⟩:=open_string Tryz.underlying9 (a 0 9 E rfl rfl) s;obtain⟨c,rfl,rfl,rfl,A⟩:=open_string Tryz.underlying9 (a 1 9 F rfl rfl) u;clear hA0 k;simp only[Cl]at g;have m:b.size<=140737488351232:=by
  have h:=sized_string i (j:=0) (t:=9) (bytes:=b.data.toList) (by rw[Tryz.params4];rfl) rfl;rw[CT]at h;exact h
 have l:c.size<=140737488351232:=by
  have h:=sized_string i (j:=1) (t:=9) (bytes:=c.data.toList) (by rw[Tryz.params4];rfl) rfl;rw[CT]at h;exact h
 refine(M3.gU b c m l W (gW n)).mono λe W' ⟨x,r⟩=>?_;subst x;refine⟨_,rfl,?_⟩;exact gX g (λ_ _ _=>trodAll_mk1 (shut_bool Tryz.underlying4 _)) (λP=>trodAll_mk2 (shut_string Tryz.underlying9 z) (shut_string Tryz.underlying9 A)) (λ_=>rfl) (r.frame _) (ok_one (by kernel_rfl) rfl (okWide_bool_mk Tryz.underlying4 _))
theorem gs:Rows.PartsFreesSaid:=
 OpenClaim.holds_of_wide 4 Tryz.f4 rfl rfl rfl rfl rfl rfl rfl ⟨rfl,rfl,rfl,rfl,rfl⟩ rfl rfl rfl rfl rfl (by kernel_rfl) Tryz.func4 (by kernel_rfl)
  (Bf (by kernel_rfl)) (by unfold Func.isWrapper;first|(rw[BG Du];kernel_rfl)|(rw[BE Du];exact⟨rfl,rfl⟩))
  (λos a H enc _=>gY os a H enc)
