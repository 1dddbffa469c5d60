import Derived.Test.YtcahejkcdcjjgaaGreatDoorK50
import Derived.Test.YtcahejkcdcjjgaaGreatDoorK51
set_option maxRecDepth 100000
set_option maxHeartbeats 16000000
namespace Go.Proofs.YtcahejkcdcjjgaaGreatDoor
open Go.ChangeMaps Go.ChangeShapes Go.WideShapes Go.ChangeAt Go.WideMaps Go.WideElems Go.RowKit
theorem Jeu (os:Os) (started:os.Started) (H:Type) (enc:TypeId × Value→H) :
 ReturnsInHanded {} Tryz.checked os 7 .any (fun w args=>(Rows.polyLawsSpec.pre enc Tryz.prog Tryz.f7 [] false w args∧laidMetH Tryz.prog Jgs w)∧sizedMet enc Tryz.prog Tryz.f7 (OpenSpec.ofChange Rows.polyLawsSpec) false w args)
  (Rows.polyLawsSpec.post enc Tryz.prog Tryz.f7 false true false false):=by
 refine returnsInHanded_of_change_and (C:=Tryz.checked) (X:=fun w _=>laidMetH Tryz.prog Jgs w) (fun _ _ _ hh h=>h.of_heap hh) own started (by kernel_rfl) Tryz.func7
  (ChangeSpec.witness_shaped (enc:=enc) (C:=Tryz.checked) (os:=os) (X:=fun w _=>laidMetH Tryz.prog Jgs w) false (World.laidAll Tryz.prog os Jgs) #[.string ⟨#[]⟩,.string ⟨#[]⟩,.string ⟨#[]⟩,.string ⟨#[]⟩] 8 (World.laidAll_os _ _ _) (World.shaped_of_ZipB (by kernel_rfl) (by kernel_rfl)) (by kernel_rfl) (by kernel_rfl) (by kernel_rfl) (Jqs os _)) ?_
 intro W base args ds gs before hval0 hW _ hsz hL _;have hval:∀ (j:Nat) t v,Tryz.f7.params[j]?=some t→args[j]?=some v→Value.okWide Tryz.prog W .any base t v:=hval0;have hW':=hW;obtain ⟨p,q,hA0,hV,rfl,hfz,hnd⟩:=hW;have hA:DataW.TrodAll enc Tryz.prog W 0 (fun _=>true) true Tryz.f7.params.toList args.toList ds p:=hA0;rw [Tryz.params7] at hA hval;obtain ⟨v0,v1,v2,v3,d0,d1,d2,d3,p0,p1,p2,p3,rfl,rfl,rfl,hd0,hd1,hd2,hd3⟩:=trodAll_four hA;obtain ⟨rfl,rfl⟩:=trodVars_none hV;obtain ⟨s0,rfl,rfl,rfl,hs0⟩:=open_string Tryz.underlying9 (hval 0 9 v0 rfl rfl) hd0;obtain ⟨s1,rfl,rfl,rfl,hs1⟩:=open_string Tryz.underlying9 (hval 1 9 v1 rfl rfl) hd1;obtain ⟨s2,rfl,rfl,rfl,hs2⟩:=open_string Tryz.underlying9 (hval 2 9 v2 rfl rfl) hd2;obtain ⟨s3,rfl,rfl,rfl,hs3⟩:=open_string Tryz.underlying9 (hval 3 9 v3 rfl rfl) hd3;clear hA0 hval0;simp only [List.append_nil] at hW';have hz0:s0.size≤140737488351232:=by
  have h:=sized_string hsz (j:=0) (t:=9) (bytes:=s0.data.toList) (by rw [Tryz.params7];rfl) rfl;rw [Array.length_toList] at h;exact h
 have hz1:s1.size≤140737488351232:=by
  have h:=sized_string hsz (j:=1) (t:=9) (bytes:=s1.data.toList) (by rw [Tryz.params7];rfl) rfl;rw [Array.length_toList] at h;exact h
 have hz2:s2.size≤140737488351232:=by
  have h:=sized_string hsz (j:=2) (t:=9) (bytes:=s2.data.toList) (by rw [Tryz.params7];rfl) rfl;rw [Array.length_toList] at h;exact h
 have hz3:s3.size≤140737488351232:=by
  have h:=sized_string hsz (j:=3) (t:=9) (bytes:=s3.data.toList) (by rw [Tryz.params7];rfl) rfl;rw [Array.length_toList] at h;exact h
 refine (Jl8 s0 s1 s2 s3 hz0 hz1 hz2 hz3 W (Jky hL)).mono fun e W' ⟨he,hb⟩=>?_;subst he;refine ⟨_,rfl,?_⟩;exact Jl9 hW' (fun _ _ _=>trodAll_mk1 (shut_bool Tryz.underlying4 _)) (fun sp=>trodAll_mk4 (shut_string Tryz.underlying9 hs0) (shut_string Tryz.underlying9 hs1) (shut_string Tryz.underlying9 hs2) (shut_string Tryz.underlying9 hs3)) (fun _=>rfl) (hb.frame _) (ok_one (by kernel_rfl) rfl (okWide_bool_mk Tryz.underlying4 _))
theorem Jgt:Rows.PolyLawsSaid:=
 OpenClaim.holds_of_wide 7 Tryz.f7 rfl rfl rfl rfl rfl rfl rfl ⟨rfl,rfl,rfl,rfl,rfl⟩ rfl rfl rfl rfl rfl (by kernel_rfl) Tryz.func7 (by kernel_rfl)
  (of_decide_eq_true (by kernel_rfl)) (by unfold Func.isWrapper;first | (rw [if_pos (by decide +kernel)];kernel_rfl) | (rw [if_neg (by decide +kernel)];exact ⟨rfl,rfl⟩))
  (fun os started H enc _=>Jeu os started H enc)
end Go.Proofs.YtcahejkcdcjjgaaGreatDoor
