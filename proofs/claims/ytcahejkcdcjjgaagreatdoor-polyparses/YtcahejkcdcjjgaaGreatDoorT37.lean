import Derived.Test.YtcahejkcdcjjgaaGreatDoorT35
import Derived.Test.YtcahejkcdcjjgaaGreatDoorT36
set_option linter.all false
open Go.Proofs.Tryz renaming prog->B
set_option maxRecDepth 99999
set_option maxHeartbeats 0
namespace Go.Proofs.YtcahejkcdcjjgaaGreatDoor
open Proofs.Tryz
open Go.ChangeMaps Go.ChangeShapes Go.WideShapes Go.ChangeAt Go.WideMaps Go.WideElems Go.RowKit
def TQ(os:Os)(D:os.Started)(i:Type)(enc:TypeId × Value->i):
 ReturnsInHanded {} Tryz.checked os 3 .any (λw args=>(Rows.polyParsesSpec.pre enc B Tryz.f3 [] false w args/\laidMetH B FF w)/\sizedMet enc B Tryz.f3 (OpenSpec.ofChange Rows.polyParsesSpec) false w args)
  (Rows.polyParsesSpec.post enc B Tryz.f3 false true false false):=by
 refine returnsInHanded_of_change_and (C:=Tryz.checked) (X:=λw _=>laidMetH B FF w) (λ_ _ _ x h=>h.of_heap x) own D TT func3
  (ChangeSpec.witness_shaped (enc:=enc) (C:=Tryz.checked) (os:=os) (X:=λw _=>laidMetH B FF w) false (World.laidAll B os FF) #[.string ⟨#[]⟩,.int .i64 0] 8 (World.laidAll_os _ _ _) (World.shaped_of_ZipB TT TT) TT TT TT (TN os _)) ?_
 intro W l args ds I H g d _ z m _;have a:∀(j:Nat) t v,Tryz.f3.params[j]?=some t->args[j]?=some v->Value.okWide B W .any l t v:=g;have f:=d;obtain⟨p,q,hA0,n,rfl,K,L⟩:=d;have c:DataW.TrodAll enc B W 0 (λ_=>true) true Tryz.f3.params.toList args.toList ds p:=hA0;rw[params3]at c a;obtain⟨E,F,d0,d1,p0,p1,rfl,rfl,rfl,r,s⟩:=trodAll_two c;obtain⟨rfl,rfl⟩:=trodVars_none n;obtain⟨b,rfl,rfl,rfl,y⟩:=open_string underlying9 (a 0 9 E J J) r;obtain⟨A,rfl,rfl,rfl,G⟩:=open_int underlying3 (a 1 3 F J J) s;clear hA0 g;simp only[Cb]at f;have k:b.size<=140737488351232:=by
  have h:=sized_string z (j:=0) (t:=9) (bytes:=b.data.toList) (by rw[params3];rfl) J;rw[Array.length_toList]at h;exact h
 refine(TM b A k W (TO m)).mono λe W' ⟨u,o⟩=>?_;subst u;refine⟨_,J,?_⟩;exact TP f (λ_ _ _=>trodAll_mk1 (shut_bool underlying4 _)) (λM=>trodAll_mk2 (shut_string underlying9 y) (shut_int underlying3 G)) (λ_=>rfl) (o.frame _) (ok_one TT J (okWide_bool_mk underlying4 _))
def TR:Rows.PolyParsesSaid:=
 OpenClaim.holds_of_wide 3 Tryz.f3 J J J J J J J ⟨J,J,J,J,J⟩ J J J J J TT func3 TT
  (Be TT) (by unfold Func.isWrapper;first|(rw[BL FR];kernel_rfl)|(rw[BH FR];exact⟨J,J⟩))
  (λos b a enc _=>TQ os b a enc)
