import Derived.Test.YtcahodpphikgnaaGreatDoorW33
import Derived.Test.YtcahodpphikgnaaGreatDoorW34
set_option linter.all false
set_option maxRecDepth 99999
set_option maxHeartbeats 0
namespace Go.Proofs.YtcahodpphikgnaaGreatDoor
open Proofs.Tryz
open Go.ChangeMaps Go.ChangeShapes Go.WideShapes Go.ChangeAt Go.WideMaps Go.WideElems Go.RowKit
def X9(os:Os)(started:os.Started)(H:Type)(enc:TypeId × Value→H):
 ReturnsInHanded {} Tryz.checked os 6 .any (fun w args=>(Rows.ratioLawsSpec.pre enc Tryz.prog Tryz.f6 [] false w args∧laidMetH Tryz.prog DR w)∧sizedMet enc Tryz.prog Tryz.f6 (OpenSpec.ofChange Rows.ratioLawsSpec) false w args)
  (Rows.ratioLawsSpec.post enc Tryz.prog Tryz.f6 false true false false):=by
 refine returnsInHanded_of_change_and (C:=Tryz.checked) (X:=fun w _=>laidMetH Tryz.prog DR w) (fun _ _ _ hh h=>h.of_heap hh) own started Lz func6
  (ChangeSpec.witness_shaped (enc:=enc) (C:=Tryz.checked) (os:=os) (X:=fun w _=>laidMetH Tryz.prog DR w) false (World.doorLaid Tryz.prog 400 os) #[.string ⟨#[]⟩,.string ⟨#[]⟩,.string ⟨#[]⟩,.int .i64 0] 8 J (World.shaped_of_RefB Lz Lz) Lz Lz Lz (Lv os _)) ?_
 intro W base args ds gs before hval0 hW _ hsz hL _;have Qa:∀(j:Nat) t v,Tryz.f6.params[j]?=some t→args[j]?=some v→Value.okWide Tryz.prog W .any base t v:=hval0;have hW':=hW;obtain⟨p,q,hA0,hV,rfl,hfz,hnd⟩:=hW;have hA:DataW.TrodAll enc Tryz.prog W 0 (fun _=>true) true Tryz.f6.params.toList args.toList ds p:=hA0;rw[params6]at hA Qa;obtain⟨v0,v1,v2,v3,d0,d1,d2,d3,p0,p1,p2,p3,rfl,rfl,rfl,hd0,hd1,hd2,hd3⟩:=trodAll_four hA;obtain⟨rfl,rfl⟩:=trodVars_none hV;obtain⟨s0,rfl,rfl,rfl,hs0⟩:=open_string underlying9 (Qa 0 9 v0 J J) hd0;obtain⟨s1,rfl,rfl,rfl,hs1⟩:=open_string underlying9 (Qa 1 9 v1 J J) hd1;obtain⟨s2,rfl,rfl,rfl,hs2⟩:=open_string underlying9 (Qa 2 9 v2 J J) hd2;obtain⟨n3,rfl,rfl,rfl,wn3⟩:=open_int underlying3 (Qa 3 3 v3 J J) hd3;clear hA0 hval0;simp only[List.append_nil]at hW';refine(Lu s0 s1 s2 n3 W (Lw hL)).mono fun e W' ⟨he,hb⟩=>?_;subst he;refine⟨_,J,?_⟩;exact Lx hW' (fun _ _ _=>trodAll_mk1 (shut_bool underlying4 _)) (fun sp=>trodAll_mk4 (shut_string underlying9 hs0) (shut_string underlying9 hs1) (shut_string underlying9 hs2) (shut_int underlying3 wn3)) (fun _=>rfl) (hb.frame _) (ok_one Lz J (okWide_bool_mk underlying4 _))
def Ly:Rows.RatioLawsSaid:=
 OpenClaim.holds_of_wide 6 Tryz.f6 J J J J J J J ⟨J,J,J,J,J⟩ J J J J J Lz func6 Lz
  (BQ Lz) (by unfold Func.isWrapper;first|(rw[BX (by decide +kernel)];kernel_rfl)|(rw[BU (by decide +kernel)];exact⟨J,J⟩))
  (fun os started H enc _=>X9 os started H enc)
