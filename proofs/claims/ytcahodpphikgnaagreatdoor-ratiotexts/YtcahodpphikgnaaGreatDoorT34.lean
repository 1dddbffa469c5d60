import Derived.Test.YtcahodpphikgnaaGreatDoorT32
import Derived.Test.YtcahodpphikgnaaGreatDoorT33
set_option linter.all false
open Go.Proofs.Tryz renaming prog->B
set_option maxRecDepth 99999
set_option maxHeartbeats 0
namespace Go.Proofs.YtcahodpphikgnaaGreatDoor
open Proofs.Tryz
open Go.ChangeMaps Go.ChangeShapes Go.WideShapes Go.ChangeAt Go.WideMaps Go.WideElems Go.RowKit
def Nh(os:Os)(D:os.Started)(i:Type)(enc:TypeId × Value->i):
 ReturnsInHanded {} Tryz.checked os 3 .any (λw args=>(Rows.ratioTextsSpec.pre enc B Tryz.f3 [] false w args/\laidMetH B D7 w)/\sizedMet enc B Tryz.f3 (OpenSpec.ofChange Rows.ratioTextsSpec) false w args)
  (Rows.ratioTextsSpec.post enc B Tryz.f3 false true false false):=by
 refine returnsInHanded_of_change_and (C:=Tryz.checked) (X:=λw _=>laidMetH B D7 w) (λ_ _ _ x h=>h.of_heap x) own D Nk func3
  (ChangeSpec.witness_shaped (enc:=enc) (C:=Tryz.checked) (os:=os) (X:=λw _=>laidMetH B D7 w) false (World.doorLaid B 400 os) #[.string ⟨#[]⟩,.int .i64 0] 8 J (World.shaped_of_RefB Nk Nk) Nk Nk Nk (Nd os _)) ?_
 intro W l args ds I H g d _ z m _;have a:∀(j:Nat) t v,Tryz.f3.params[j]?=some t->args[j]?=some v->Value.okWide B W .any l t v:=g;have f:=d;obtain⟨p,q,hA0,n,rfl,K,L⟩:=d;have c:DataW.TrodAll enc B W 0 (λ_=>true) true Tryz.f3.params.toList args.toList ds p:=hA0;rw[params3]at c a;obtain⟨E,F,d0,d1,p0,p1,rfl,rfl,rfl,r,s⟩:=trodAll_two c;obtain⟨rfl,rfl⟩:=trodVars_none n;obtain⟨b,rfl,rfl,rfl,y⟩:=open_string underlying9 (a 0 9 E J J) r;obtain⟨A,rfl,rfl,rfl,G⟩:=open_int underlying3 (a 1 3 F J J) s;clear hA0 g;simp only[CS]at f;have k:b.size<=140737488351232:=by
  have h:=sized_string z (j:=0) (t:=9) (bytes:=b.data.toList) (by rw[params3];rfl) J;rw[Array.length_toList]at h;exact h
 refine(Nc b A k W (Nf m)).mono λe W' ⟨u,o⟩=>?_;subst u;refine⟨_,J,?_⟩;exact Ng f (λ_ _ _=>trodAll_mk1 (shut_bool underlying4 _)) (λM=>trodAll_mk2 (shut_string underlying9 y) (shut_int underlying3 G)) (λ_=>rfl) (o.frame _) (ok_one Nk J (okWide_bool_mk underlying4 _))
def Ni:Rows.RatioTextsSaid:=
 OpenClaim.holds_of_wide 3 Tryz.f3 J J J J J J J ⟨J,J,J,J,J⟩ J J J J J Nk func3 Nk
  (BZ Nk) (by unfold Func.isWrapper;first|(rw[BT D8];kernel_rfl)|(rw[BR D8];exact⟨J,J⟩))
  (λos b a enc _=>Nh os b a enc)
