import Derived.Test.YtakpoihdghihmaaGreatDoorL51
import Derived.Test.YtakpoihdghihmaaGreatDoorL52
set_option maxRecDepth 100000
set_option maxHeartbeats 16000000
namespace Go.Proofs.YtakpoihdghihmaaGreatDoor
open Go.ChangeMaps Go.ChangeShapes Go.WideShapes Go.ChangeAt Go.WideMaps Go.WideElems Go.RowKit
theorem fR(os:Os)(started:os.Started)(H:Type)(enc:TypeId × Value→H):
 ReturnsInHanded {} Tryz.checked os 5 .any (fun w args=>(Rows.sturmLawsSpec.pre enc Tryz.prog Tryz.f5 [] false w args∧laidMetH Tryz.prog Iu w)∧sizedMet enc Tryz.prog Tryz.f5 (OpenSpec.ofChange Rows.sturmLawsSpec) false w args)
  (Rows.sturmLawsSpec.post enc Tryz.prog Tryz.f5 false true false false):=by
 refine returnsInHanded_of_change_and (C:=Tryz.checked) (X:=fun w _=>laidMetH Tryz.prog Iu w) (fun _ _ _ hh h=>h.of_heap hh) own started (by kernel_rfl) Tryz.func5
  (ChangeSpec.witness_shaped (enc:=enc) (C:=Tryz.checked) (os:=os) (X:=fun w _=>laidMetH Tryz.prog Iu w) false (World.laidAll Tryz.prog os Iu) #[.string ⟨#[]⟩,.string ⟨#[]⟩,.string ⟨#[]⟩,.string ⟨#[]⟩] 8 (World.laidAll_os _ _ _) (World.shaped_of_ZipB (by kernel_rfl) (by kernel_rfl)) (by kernel_rfl) (by kernel_rfl) (by kernel_rfl) (fP os _)) ?_
 intro W base args ds gs before hval0 hW _ _ hL _;have Qa:∀(j:Nat) t v,Tryz.f5.params[j]?=some t→args[j]?=some v→Value.okWide Tryz.prog W .any base t v:=hval0;have hW':=hW;obtain⟨p,q,hA0,hV,rfl,hfz,hnd⟩:=hW;have hA:DataW.TrodAll enc Tryz.prog W 0 (fun _=>true) true Tryz.f5.params.toList args.toList ds p:=hA0;rw[Tryz.params5]at hA Qa;obtain⟨v0,v1,v2,v3,d0,d1,d2,d3,p0,p1,p2,p3,rfl,rfl,rfl,hd0,hd1,hd2,hd3⟩:=trodAll_four hA;obtain⟨rfl,rfl⟩:=trodVars_none hV;obtain⟨s0,rfl,rfl,rfl,hs0⟩:=open_string Tryz.underlying9 (Qa 0 9 v0 rfl rfl) hd0;obtain⟨s1,rfl,rfl,rfl,hs1⟩:=open_string Tryz.underlying9 (Qa 1 9 v1 rfl rfl) hd1;obtain⟨s2,rfl,rfl,rfl,hs2⟩:=open_string Tryz.underlying9 (Qa 2 9 v2 rfl rfl) hd2;obtain⟨s3,rfl,rfl,rfl,hs3⟩:=open_string Tryz.underlying9 (Qa 3 9 v3 rfl rfl) hd3;clear hA0 hval0;simp only[C1]at hW';refine(M3.fO s0 s1 s2 s3 W).mono fun e W' ⟨he,hb⟩=>?_;subst he;refine⟨_,rfl,?_⟩;exact fQ hW' (fun _ _ _=>trodAll_mk1 (shut_bool Tryz.underlying4 _)) (fun sp=>trodAll_mk4 (shut_string Tryz.underlying9 hs0) (shut_string Tryz.underlying9 hs1) (shut_string Tryz.underlying9 hs2) (shut_string Tryz.underlying9 hs3)) (fun _=>rfl) (hb.frame _) (ok_one (by kernel_rfl) rfl (okWide_bool_mk Tryz.underlying4 _))
theorem fS:Rows.SturmLawsSaid:=
 OpenClaim.holds_of_wide 5 Tryz.f5 rfl rfl rfl rfl rfl rfl rfl ⟨rfl,rfl,rfl,rfl,rfl⟩ rfl rfl rfl rfl rfl (by kernel_rfl) Tryz.func5 (by kernel_rfl)
  (Bo (by kernel_rfl)) (by unfold Func.isWrapper;first|(rw[BH (by decide +kernel)];kernel_rfl)|(rw[BE (by decide +kernel)];exact⟨rfl,rfl⟩))
  (fun os started H enc _=>fR os started H enc)
