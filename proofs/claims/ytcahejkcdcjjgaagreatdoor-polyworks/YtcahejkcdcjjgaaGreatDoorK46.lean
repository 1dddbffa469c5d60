import Derived.Test.YtcahejkcdcjjgaaGreatDoorK44
import Derived.Test.YtcahejkcdcjjgaaGreatDoorK45
set_option maxRecDepth 100000
set_option maxHeartbeats 16000000
namespace Go.Proofs.YtcahejkcdcjjgaaGreatDoor
open Go.ChangeMaps Go.ChangeShapes Go.WideShapes Go.ChangeAt Go.WideMaps Go.WideElems Go.RowKit
theorem Je8(os:Os)(started:os.Started)(H:Type)(enc:TypeId × Value→H):
 ReturnsInHanded {} Tryz.checked os 5 .any (fun w args=>(Rows.polyWorksSpec.pre enc Tryz.prog Tryz.f5 [] false w args∧laidMetH Tryz.prog Jhn w)∧sizedMet enc Tryz.prog Tryz.f5 (OpenSpec.ofChange Rows.polyWorksSpec) false w args)
  (Rows.polyWorksSpec.post enc Tryz.prog Tryz.f5 false true false false):=by
 refine returnsInHanded_of_change_and (C:=Tryz.checked) (X:=fun w _=>laidMetH Tryz.prog Jhn w) (fun _ _ _ hh h=>h.of_heap hh) own started (by kernel_rfl) Tryz.func5
  (ChangeSpec.witness_shaped (enc:=enc) (C:=Tryz.checked) (os:=os) (X:=fun w _=>laidMetH Tryz.prog Jhn w) false (World.laidAll Tryz.prog os Jhn) #[.string ⟨#[]⟩,.string ⟨#[]⟩] 8 (World.laidAll_os _ _ _) (World.shaped_of_ZipB (by kernel_rfl) (by kernel_rfl)) (by kernel_rfl) (by kernel_rfl) (by kernel_rfl) (Jr8 os _)) ?_
 intro W base args ds gs before hval0 hW _ hsz hL _;have Qa:∀(j:Nat) t v,Tryz.f5.params[j]?=some t→args[j]?=some v→Value.okWide Tryz.prog W .any base t v:=hval0;have hW':=hW;obtain⟨p,q,hA0,hV,rfl,hfz,hnd⟩:=hW;have hA:DataW.TrodAll enc Tryz.prog W 0 (fun _=>true) true Tryz.f5.params.toList args.toList ds p:=hA0;rw[Tryz.params5]at hA Qa;obtain⟨v0,v1,d0,d1,p0,p1,rfl,rfl,rfl,hd0,hd1⟩:=trodAll_two hA;obtain⟨rfl,rfl⟩:=trodVars_none hV;obtain⟨s0,rfl,rfl,rfl,hs0⟩:=open_string Tryz.underlying9 (Qa 0 9 v0 rfl rfl) hd0;obtain⟨s1,rfl,rfl,rfl,hs1⟩:=open_string Tryz.underlying9 (Qa 1 9 v1 rfl rfl) hd1;clear hA0 hval0;simp only[Cj]at hW';have Qc:s0.size≤140737488351232:=by
  have h:=sized_string hsz (j:=0) (t:=9) (bytes:=s0.data.toList) (by rw[Tryz.params5];rfl) rfl;rw[CY]at h;exact h
 have Qb:s1.size≤140737488351232:=by
  have h:=sized_string hsz (j:=1) (t:=9) (bytes:=s1.data.toList) (by rw[Tryz.params5];rfl) rfl;rw[CY]at h;exact h
 refine(Jlr s0 s1 Qc Qb W (Jls hL)).mono fun e W' ⟨he,hb⟩=>?_;subst he;refine⟨_,rfl,?_⟩;exact Jm1 hW' (fun _ _ _=>trodAll_mk1 (shut_bool Tryz.underlying4 _)) (fun sp=>trodAll_mk2 (shut_string Tryz.underlying9 hs0) (shut_string Tryz.underlying9 hs1)) (fun _=>rfl) (hb.frame _) (ok_one (by kernel_rfl) rfl (okWide_bool_mk Tryz.underlying4 _))
theorem Jfo:Rows.PolyWorksSaid:=
 OpenClaim.holds_of_wide 5 Tryz.f5 rfl rfl rfl rfl rfl rfl rfl ⟨rfl,rfl,rfl,rfl,rfl⟩ rfl rfl rfl rfl rfl (by kernel_rfl) Tryz.func5 (by kernel_rfl)
  (of_decide_eq_true (by kernel_rfl)) (by unfold Func.isWrapper;first|(rw[if_pos (by decide +kernel)];kernel_rfl)|(rw[if_neg (by decide +kernel)];exact⟨rfl,rfl⟩))
  (fun os started H enc _=>Je8 os started H enc)
