import Derived.Test.YtcahejkcdcjjgaaGreatDoorV35
import Derived.Test.YtcahejkcdcjjgaaGreatDoorV36
set_option linter.all false
open Go.Proofs.Tryz renaming prog->B
set_option maxRecDepth 99999
set_option maxHeartbeats 0
namespace Go.Proofs.YtcahejkcdcjjgaaGreatDoor
open Proofs.Tryz
open Go.ChangeMaps Go.ChangeShapes Go.WideShapes Go.ChangeAt Go.WideMaps Go.WideElems Go.RowKit
def V4(os:Os)(F:os.Started)(l:Type)(enc:TypeId × Value->l):
 ReturnsInHanded {} Tryz.checked os 5 .any (λw args=>(Rows.polyWorksSpec.pre enc B Tryz.f5 [] false w args/\laidMetH B Fs w)/\sizedMet enc B Tryz.f5 (OpenSpec.ofChange Rows.polyWorksSpec) false w args)
  (Rows.polyWorksSpec.post enc B Tryz.f5 false true false false):=by
 refine returnsInHanded_of_change_and (C:=Tryz.checked) (X:=λw _=>laidMetH B Fs w) (λ_ _ _ A h=>h.of_heap A) own F V9 func5
  (ChangeSpec.witness_shaped (enc:=enc) (C:=Tryz.checked) (os:=os) (X:=λw _=>laidMetH B Fs w) false (World.laidAll B os Fs) #[.string ⟨#[]⟩,.string ⟨#[]⟩] 8 (World.laidAll_os _ _ _) (World.shaped_of_ZipB V9 V9) V9 V9 V9 (Vx os _)) ?_
 intro W o args ds K I k f _ i r _;have a:∀(j:Nat) t v,Tryz.f5.params[j]?=some t->args[j]?=some v->Value.okWide B W .any o t v:=k;have g:=f;obtain⟨p,q,hA0,s,rfl,L,M⟩:=f;have d:DataW.TrodAll enc B W 0 (λ_=>true) true Tryz.f5.params.toList args.toList ds p:=hA0;rw[params5]at d a;obtain⟨G,H,d0,d1,p0,p1,rfl,rfl,rfl,x,y⟩:=trodAll_two d;obtain⟨rfl,rfl⟩:=trodVars_none s;obtain⟨b,rfl,rfl,rfl,D⟩:=open_string underlying9 (a 0 9 G J J) x;obtain⟨c,rfl,rfl,rfl,E⟩:=open_string underlying9 (a 1 9 H J J) y;clear hA0 k;simp only[Cd]at g;have n:b.size<=140737488351232:=by
  have h:=sized_string i (j:=0) (t:=9) (bytes:=b.data.toList) (by rw[params5];rfl) J;rw[Array.length_toList]at h;exact h
 have m:c.size<=140737488351232:=by
  have h:=sized_string i (j:=1) (t:=9) (bytes:=c.data.toList) (by rw[params5];rfl) J;rw[Array.length_toList]at h;exact h
 refine(Vw b c n m W (Vy r)).mono λe W' ⟨z,u⟩=>?_;subst z;refine⟨_,J,?_⟩;exact Vz g (λ_ _ _=>trodAll_mk1 (shut_bool underlying4 _)) (λN=>trodAll_mk2 (shut_string underlying9 D) (shut_string underlying9 E)) (λ_=>rfl) (u.frame _) (ok_one V9 J (okWide_bool_mk underlying4 _))
def V5:Rows.PolyWorksSaid:=
 OpenClaim.holds_of_wide 5 Tryz.f5 J J J J J J J ⟨J,J,J,J,J⟩ J J J J J V9 func5 V9
  (Bj V9) (by unfold Func.isWrapper;first|(rw[BR GD];kernel_rfl)|(rw[BL GD];exact⟨J,J⟩))
  (λos b a enc _=>V4 os b a enc)
