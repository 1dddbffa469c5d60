import Derived.Test.YteldjhhjnchdeaaGreatDoorT47
import Derived.Test.YteldjhhjnchdeaaGreatDoorT48
open Go.Proofs.Tryz renaming prog->B
set_option maxRecDepth 100000
set_option maxHeartbeats 16000000
namespace Go.Proofs.YteldjhhjnchdeaaGreatDoor
open Go.ChangeMaps Go.ChangeShapes Go.WideShapes Go.ChangeAt Go.WideMaps Go.WideElems Go.RowKit
theorem gC(os:Os)(z:os.Started)(H:Type)(enc:TypeId × Value->H):
 ReturnsInHanded {} Tryz.checked os 3 .any (λw args=>(Rows.partsGCDsSpec.pre enc B Tryz.f3 [] false w args/\laidMetH B Iy w)/\sizedMet enc B Tryz.f3 (OpenSpec.ofChange Rows.partsGCDsSpec) false w args)
  (Rows.partsGCDsSpec.post enc B Tryz.f3 false true false false):=by
 refine returnsInHanded_of_change_and (C:=Tryz.checked) (X:=λw _=>laidMetH B Iy w) (λ_ _ _ x h=>h.of_heap x) own z (by kernel_rfl) Tryz.func3
  (ChangeSpec.witness_shaped (enc:=enc) (C:=Tryz.checked) (os:=os) (X:=λw _=>laidMetH B Iy w) false (World.laidAll B os Iy) #[.string ⟨#[]⟩,.string ⟨#[]⟩,.string ⟨#[]⟩] 8 (World.laidAll_os _ _ _) (World.shaped_of_ZipB (by kernel_rfl) (by kernel_rfl)) (by kernel_rfl) (by kernel_rfl) (by kernel_rfl) (fZ os _)) ?_
 intro W base args ds T O k l _ d J _;have a:∀(j:Nat) t v,Tryz.f3.params[j]?=some t->args[j]?=some v->Value.okWide B W .any base t v:=k;have g:=l;obtain⟨p,q,hA0,s,rfl,M,N⟩:=l;have i:DataW.TrodAll enc B W 0 (λ_=>true) true Tryz.f3.params.toList args.toList ds p:=hA0;rw[Tryz.params3]at i a;obtain⟨I,A,n,d0,d1,S,R,Q,P,rfl,rfl,rfl,m,F,D⟩:=trodAll_three i;obtain⟨rfl,rfl⟩:=trodVars_none s;obtain⟨b,rfl,rfl,rfl,y⟩:=open_string Tryz.underlying9 (a 0 9 I rfl rfl) m;obtain⟨c,rfl,rfl,rfl,K⟩:=open_string Tryz.underlying9 (a 1 9 A rfl rfl) F;obtain⟨f,rfl,rfl,rfl,L⟩:=open_string Tryz.underlying9 (a 2 9 n rfl rfl) D;clear hA0 k;simp only[Cl]at g;have o:b.size<=140737488351232:=by
  have h:=sized_string d (j:=0) (t:=9) (bytes:=b.data.toList) (by rw[Tryz.params3];rfl) rfl;rw[CH]at h;exact h
 have u:c.size<=140737488351232:=by
  have h:=sized_string d (j:=1) (t:=9) (bytes:=c.data.toList) (by rw[Tryz.params3];rfl) rfl;rw[CH]at h;exact h
 have G:f.size<=140737488351232:=by
  have h:=sized_string d (j:=2) (t:=9) (bytes:=f.data.toList) (by rw[Tryz.params3];rfl) rfl;rw[CH]at h;exact h
 refine(M3.fY b c f o u G W (f5 J)).mono λe W' ⟨r,E⟩=>?_;subst r;refine⟨_,rfl,?_⟩;exact gA g (λ_ _ _=>trodAll_mk1 (shut_bool Tryz.underlying4 _)) (λU=>trodAll_mk3 (shut_string Tryz.underlying9 y) (shut_string Tryz.underlying9 K) (shut_string Tryz.underlying9 L)) (λ_=>rfl) (E.frame _) (ok_one (by kernel_rfl) rfl (okWide_bool_mk Tryz.underlying4 _))
theorem gD:Rows.PartsGCDsSaid:=
 OpenClaim.holds_of_wide 3 Tryz.f3 rfl rfl rfl rfl rfl rfl rfl ⟨rfl,rfl,rfl,rfl,rfl⟩ rfl rfl rfl rfl rfl (by kernel_rfl) Tryz.func3 (by kernel_rfl)
  (Bf (by kernel_rfl)) (by unfold Func.isWrapper;first|(rw[BG D5];kernel_rfl)|(rw[BC D5];exact⟨rfl,rfl⟩))
  (λos a H enc _=>gC os a H enc)
