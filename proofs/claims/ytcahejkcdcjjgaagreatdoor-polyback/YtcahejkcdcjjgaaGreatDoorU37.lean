import Derived.Test.YtcahejkcdcjjgaaGreatDoorU35
import Derived.Test.YtcahejkcdcjjgaaGreatDoorU36
set_option linter.all false
open Go.Proofs.Tryz renaming prog->B
set_option maxRecDepth 99999
set_option maxHeartbeats 0
namespace Go.Proofs.YtcahejkcdcjjgaaGreatDoor
open Proofs.Tryz
open Go.ChangeMaps Go.ChangeShapes Go.WideShapes Go.ChangeAt Go.WideMaps Go.WideElems Go.RowKit
def TY(os:Os)(z:os.Started)(i:Type)(enc:TypeId × Value->i):
 ReturnsInHanded {} Tryz.checked os 8 .any (λw args=>(Rows.polyBackSpec.pre enc B Tryz.f8 [] false w args/\laidMetH B FN w)/\sizedMet enc B Tryz.f8 (OpenSpec.ofChange Rows.polyBackSpec) false w args)
  (Rows.polyBackSpec.post enc B Tryz.f8 false true false false):=by
 refine returnsInHanded_of_change_and (C:=Tryz.checked) (X:=λw _=>laidMetH B FN w) (λ_ _ _ u h=>h.of_heap u) own z Tc func8
  (ChangeSpec.witness_shaped (enc:=enc) (C:=Tryz.checked) (os:=os) (X:=λw _=>laidMetH B FN w) false (World.laidAll B os FN) #[.string ⟨#[]⟩] 8 (World.laidAll_os _ _ _) (World.shaped_of_ZipB Tc Tc) Tc Tc Tc (TU os _)) ?_
 intro W l args ds E D g d _ y m _;have b:∀(j:Nat) t v,Tryz.f8.params[j]?=some t->args[j]?=some v->Value.okWide B W .any l t v:=g;have f:=d;obtain⟨p,q,hA0,n,rfl,F,G⟩:=d;have c:DataW.TrodAll enc B W 0 (λ_=>true) true Tryz.f8.params.toList args.toList ds p:=hA0;rw[params8]at c b;obtain⟨A,d0,rfl,rfl,r⟩:=trodAll_one c;obtain⟨rfl,rfl⟩:=trodVars_none n;obtain⟨a,rfl,rfl,rfl,x⟩:=open_string underlying9 (b 0 9 A J J) r;clear hA0 g;simp only[Cv]at f;have k:a.size<=140737488351232:=by
  have h:=sized_string y (j:=0) (t:=9) (bytes:=a.data.toList) (by rw[params8];rfl) J;rw[Array.length_toList]at h;exact h
 refine(TT a k W (TV m)).mono λe W' ⟨s,o⟩=>?_;subst s;refine⟨_,J,?_⟩;exact TW f (λ_ _ _=>trodAll_mk1 (shut_bool underlying4 _)) (λH=>trodAll_mk1 (shut_string underlying9 x)) (λ_=>rfl) (o.frame _) (ok_one Tc J (okWide_bool_mk underlying4 _))
def TZ:Rows.PolyBackSaid:=
 OpenClaim.holds_of_wide 8 Tryz.f8 J J J J J J J ⟨J,J,J,J,J⟩ J J J J J Tc func8 Tc
  (Bc Tc) (by unfold Func.isWrapper;first|(rw[BH Fg];kernel_rfl)|(rw[BE Fg];exact⟨J,J⟩))
  (λos b a enc _=>TY os b a enc)
