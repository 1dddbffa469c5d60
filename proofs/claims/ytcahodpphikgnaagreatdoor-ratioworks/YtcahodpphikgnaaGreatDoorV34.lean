import Derived.Test.YtcahodpphikgnaaGreatDoorV32
import Derived.Test.YtcahodpphikgnaaGreatDoorV33
set_option linter.all false
open Go.Proofs.Tryz renaming prog->B
set_option maxRecDepth 99999
set_option maxHeartbeats 0
namespace Go.Proofs.YtcahodpphikgnaaGreatDoor
open Proofs.Tryz
open Go.ChangeMaps Go.ChangeShapes Go.WideShapes Go.ChangeAt Go.WideMaps Go.WideElems Go.RowKit
def N6(os:Os)(F:os.Started)(l:Type)(enc:TypeId × Value->l):
 ReturnsInHanded {} Tryz.checked os 5 .any (λw args=>(Rows.ratioWorksSpec.pre enc B Tryz.f5 [] false w args/\laidMetH B EX w)/\sizedMet enc B Tryz.f5 (OpenSpec.ofChange Rows.ratioWorksSpec) false w args)
  (Rows.ratioWorksSpec.post enc B Tryz.f5 false true false false):=by
 refine returnsInHanded_of_change_and (C:=Tryz.checked) (X:=λw _=>laidMetH B EX w) (λ_ _ _ A h=>h.of_heap A) own F N9 func5
  (ChangeSpec.witness_shaped (enc:=enc) (C:=Tryz.checked) (os:=os) (X:=λw _=>laidMetH B EX w) false (World.doorLaid B 400 os) #[.string ⟨#[]⟩,.string ⟨#[]⟩] 8 J (World.shaped_of_RefB N9 N9) N9 N9 N9 (N3 os _)) ?_
 intro W o args ds K I k f _ i r _;have a:∀(j:Nat) t v,Tryz.f5.params[j]?=some t->args[j]?=some v->Value.okWide B W .any o t v:=k;have g:=f;obtain⟨p,q,hA0,s,rfl,L,M⟩:=f;have d:DataW.TrodAll enc B W 0 (λ_=>true) true Tryz.f5.params.toList args.toList ds p:=hA0;rw[params5]at d a;obtain⟨G,H,d0,d1,p0,p1,rfl,rfl,rfl,x,y⟩:=trodAll_two d;obtain⟨rfl,rfl⟩:=trodVars_none s;obtain⟨b,rfl,rfl,rfl,D⟩:=open_string underlying9 (a 0 9 G J J) x;obtain⟨c,rfl,rfl,rfl,E⟩:=open_string underlying9 (a 1 9 H J J) y;clear hA0 k;simp only[CO]at g;have n:b.size<=140737488351232:=by
  have h:=sized_string i (j:=0) (t:=9) (bytes:=b.data.toList) (by rw[params5];rfl) J;rw[Array.length_toList]at h;exact h
 have m:c.size<=140737488351232:=by
  have h:=sized_string i (j:=1) (t:=9) (bytes:=c.data.toList) (by rw[params5];rfl) J;rw[Array.length_toList]at h;exact h
 refine(N2 b c n m W (N4 r)).mono λe W' ⟨z,u⟩=>?_;subst z;refine⟨_,J,?_⟩;exact N5 g (λ_ _ _=>trodAll_mk1 (shut_bool underlying4 _)) (λN=>trodAll_mk2 (shut_string underlying9 D) (shut_string underlying9 E)) (λ_=>rfl) (u.frame _) (ok_one N9 J (okWide_bool_mk underlying4 _))
def N7:Rows.RatioWorksSaid:=
 OpenClaim.holds_of_wide 5 Tryz.f5 J J J J J J J ⟨J,J,J,J,J⟩ J J J J J N9 func5 N9
  (BP N9) (by unfold Func.isWrapper;first|(rw[BW GM];kernel_rfl)|(rw[BZ GM];exact⟨J,J⟩))
  (λos b a enc _=>N6 os b a enc)
