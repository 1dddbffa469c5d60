import Derived.Test.YteldjhhjnchdeaaGreatDoorT46
import Derived.Test.YteldjhhjnchdeaaGreatDoorT47
open Go.Proofs.Tryz renaming prog->B
set_option maxRecDepth 100000
set_option maxHeartbeats 16000000
namespace Go.Proofs.YteldjhhjnchdeaaGreatDoor
open Go.ChangeMaps Go.ChangeShapes Go.WideShapes Go.ChangeAt Go.WideMaps Go.WideElems Go.RowKit
theorem iA(os:Os)(I:os.Started)(H:Type)(enc:TypeId × Value->H):
 ReturnsInHanded {} Tryz.checked os 3 .any (λw args=>(Rows.partsGCDsSpec.pre enc B Tryz.f3 [] false w args/\laidMetH B I1 w)/\sizedMet enc B Tryz.f3 (OpenSpec.ofChange Rows.partsGCDsSpec) false w args)
  (Rows.partsGCDsSpec.post enc B Tryz.f3 false true false false):=by
 refine returnsInHanded_of_change_and (C:=Tryz.checked) (X:=λw _=>laidMetH B I1 w) (λ_ _ _ D h=>h.of_heap D) own I (by kernel_rfl) Tryz.func3
  (ChangeSpec.witness_shaped (enc:=enc) (C:=Tryz.checked) (os:=os) (X:=λw _=>laidMetH B I1 w) false (World.laidAll B os I1) #[.string ⟨#[]⟩,.string ⟨#[]⟩,.string ⟨#[]⟩] 8 (World.laidAll_os _ _ _) (World.shaped_of_ZipB (by kernel_rfl) (by kernel_rfl)) (by kernel_rfl) (by kernel_rfl) (by kernel_rfl) (g7 os _)) ?_
 intro W base args ds Q N l i _ b r _;have a:∀(j:Nat) t v,Tryz.f3.params[j]?=some t->args[j]?=some v->Value.okWide B W .any base t v:=l;have k:=i;obtain⟨p,q,hA0,s,rfl,R,S⟩:=i;have g:DataW.TrodAll enc B W 0 (λ_=>true) true Tryz.f3.params.toList args.toList ds p:=hA0;rw[Tryz.params3]at g a;obtain⟨K,L,M,d0,d1,P,T,U,V,rfl,rfl,rfl,x,y,z⟩:=trodAll_three g;obtain⟨rfl,rfl⟩:=trodVars_none s;obtain⟨c,rfl,rfl,rfl,E⟩:=open_string Tryz.underlying9 (a 0 9 K rfl rfl) x;obtain⟨d,rfl,rfl,rfl,F⟩:=open_string Tryz.underlying9 (a 1 9 L rfl rfl) y;obtain⟨f,rfl,rfl,rfl,G⟩:=open_string Tryz.underlying9 (a 2 9 M rfl rfl) z;clear hA0 l;simp only[Cl]at k;have n:c.size<=140737488351232:=by
  have h:=sized_string b (j:=0) (t:=9) (bytes:=c.data.toList) (by rw[Tryz.params3];rfl) rfl;rw[CH]at h;exact h
 have m:d.size<=140737488351232:=by
  have h:=sized_string b (j:=1) (t:=9) (bytes:=d.data.toList) (by rw[Tryz.params3];rfl) rfl;rw[CH]at h;exact h
 have o:f.size<=140737488351232:=by
  have h:=sized_string b (j:=2) (t:=9) (bytes:=f.data.toList) (by rw[Tryz.params3];rfl) rfl;rw[CH]at h;exact h
 refine(M3.gs c d f n m o W (hO r)).mono λe W' ⟨A,u⟩=>?_;subst A;refine⟨_,rfl,?_⟩;exact hW k (λ_ _ _=>trodAll_mk1 (shut_bool Tryz.underlying4 _)) (λsp=>trodAll_mk3 (shut_string Tryz.underlying9 E) (shut_string Tryz.underlying9 F) (shut_string Tryz.underlying9 G)) (λ_=>rfl) (u.frame _) (ok_one (by kernel_rfl) rfl (okWide_bool_mk Tryz.underlying4 _))
theorem iB:Rows.PartsGCDsSaid:=
 OpenClaim.holds_of_wide 3 Tryz.f3 rfl rfl rfl rfl rfl rfl rfl ⟨rfl,rfl,rfl,rfl,rfl⟩ rfl rfl rfl rfl rfl (by kernel_rfl) Tryz.func3 (by kernel_rfl)
  (Bf (by kernel_rfl)) (by unfold Func.isWrapper;first|(rw[BG Ds];kernel_rfl)|(rw[BE Ds];exact⟨rfl,rfl⟩))
  (λos a H enc _=>iA os a H enc)
