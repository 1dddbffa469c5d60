import Derived.Test.YteldjhhjnchdeaaGreatDoorT37
import Derived.Test.YteldjhhjnchdeaaGreatDoorT38
set_option linter.all false
open Go.Proofs.Tryz renaming prog->B
set_option maxRecDepth 99999
set_option maxHeartbeats 0
namespace Go.Proofs.YteldjhhjnchdeaaGreatDoor
open Proofs.Tryz
open Go.ChangeMaps Go.ChangeShapes Go.WideShapes Go.ChangeAt Go.WideMaps Go.WideElems Go.RowKit
def kO(os:Os)(I:os.Started)(H:Type)(enc:TypeId × Value->H):
 ReturnsInHanded {} Tryz.checked os 5 .any (λw args=>(Rows.partsAllSpec.pre enc B Tryz.f5 [] false w args/\laidMetH B Ix w)/\sizedMet enc B Tryz.f5 (OpenSpec.ofChange Rows.partsAllSpec) false w args)
  (Rows.partsAllSpec.post enc B Tryz.f5 false true false false):=by
 refine returnsInHanded_of_change_and (C:=Tryz.checked) (X:=λw _=>laidMetH B Ix w) (λ_ _ _ D h=>h.of_heap D) own I kS func5
  (ChangeSpec.witness_shaped (enc:=enc) (C:=Tryz.checked) (os:=os) (X:=λw _=>laidMetH B Ix w) false (World.laidAll B os Ix) #[.string ⟨#[]⟩,.string ⟨#[]⟩,.string ⟨#[]⟩] 8 (World.laidAll_os _ _ _) (World.shaped_of_ZipB kS kS) kS kS kS (kK os _)) ?_
 intro W base args ds Q N l i _ b r _;have a:∀(j:Nat) t v,Tryz.f5.params[j]?=some t->args[j]?=some v->Value.okWide B W .any base t v:=l;have k:=i;obtain⟨p,q,hA0,s,rfl,R,S⟩:=i;have g:DataW.TrodAll enc B W 0 (λ_=>true) true Tryz.f5.params.toList args.toList ds p:=hA0;rw[params5]at g a;obtain⟨K,L,M,d0,d1,P,p0,p1,T,rfl,rfl,rfl,x,y,z⟩:=trodAll_three g;obtain⟨rfl,rfl⟩:=trodVars_none s;obtain⟨c,rfl,rfl,rfl,E⟩:=open_string underlying9 (a 0 9 K J J) x;obtain⟨d,rfl,rfl,rfl,F⟩:=open_string underlying9 (a 1 9 L J J) y;obtain⟨f,rfl,rfl,rfl,G⟩:=open_string underlying9 (a 2 9 M J J) z;clear hA0 l;simp only[Cj]at k;have n:c.size<=140737488351232:=by
  have h:=sized_string b (j:=0) (t:=9) (bytes:=c.data.toList) (by rw[params5];rfl) J;rw[C1]at h;exact h
 have m:d.size<=140737488351232:=by
  have h:=sized_string b (j:=1) (t:=9) (bytes:=d.data.toList) (by rw[params5];rfl) J;rw[C1]at h;exact h
 have o:f.size<=140737488351232:=by
  have h:=sized_string b (j:=2) (t:=9) (bytes:=f.data.toList) (by rw[params5];rfl) J;rw[C1]at h;exact h
 refine(M3.kJ c d f n m o W (kL r)).mono λe W' ⟨A,u⟩=>?_;subst A;refine⟨_,J,?_⟩;exact kN k (λ_ _ _=>trodAll_mk1 (shut_bool underlying4 _)) (λU=>trodAll_mk3 (shut_string underlying9 E) (shut_string underlying9 F) (shut_string underlying9 G)) (λ_=>rfl) (u.frame _) (ok_one kS J (okWide_bool_mk underlying4 _))
def kP:Rows.PartsAllSaid:=
 OpenClaim.holds_of_wide 5 Tryz.f5 J J J J J J J ⟨J,J,J,J,J⟩ J J J J J kS func5 kS
  (Bf kS) (by unfold Func.isWrapper;first|(rw[BL Dm];kernel_rfl)|(rw[BH Dm];exact⟨J,J⟩))
  (λos a H enc _=>kO os a H enc)
