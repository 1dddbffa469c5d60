import Derived.Test.YtakpoihdghihmaaGreatDoorU39
import Derived.Test.YtakpoihdghihmaaGreatDoorU40
set_option linter.all false
open Go.Proofs.Tryz renaming prog->B
set_option maxRecDepth 99999
set_option maxHeartbeats 0
namespace Go.Proofs.YtakpoihdghihmaaGreatDoor
open Proofs.Tryz
open Go.ChangeMaps Go.ChangeShapes Go.WideShapes Go.ChangeAt Go.WideMaps Go.WideElems Go.RowKit
def nH(os:Os)(M:os.Started)(H:Type)(enc:TypeId × Value->H):
 ReturnsInHanded {} Tryz.checked os 3 .any (λw args=>(Rows.sturmCountsSpec.pre enc B Tryz.f3 [] false w args/\laidMetH B K9 w)/\sizedMet enc B Tryz.f3 (OpenSpec.ofChange Rows.sturmCountsSpec) false w args)
  (Rows.sturmCountsSpec.post enc B Tryz.f3 false true false false):=by
 refine returnsInHanded_of_change_and (C:=Tryz.checked) (X:=λw _=>laidMetH B K9 w) (λ_ _ _ F h=>h.of_heap F) own M nK func3
  (ChangeSpec.witness_shaped (enc:=enc) (C:=Tryz.checked) (os:=os) (X:=λw _=>laidMetH B K9 w) false (World.laidAll B os K9) #[.string ⟨#[]⟩,.string ⟨#[]⟩,.string ⟨#[]⟩,.string ⟨#[]⟩] 8 (World.laidAll_os _ _ _) (World.shaped_of_ZipB nK nK) nK nK nK (nF os _)) ?_
 intro W base args ds V S m k _ b hL _;have a:∀(j:Nat) t v,Tryz.f3.params[j]?=some t->args[j]?=some v->Value.okWide B W .any base t v:=m;have l:=k;obtain⟨p,q,hA0,u,rfl,ad,ae⟩:=k;have i:DataW.TrodAll enc B W 0 (λ_=>true) true Tryz.f3.params.toList args.toList ds p:=hA0;rw[params3]at i a;obtain⟨N,P,Q,R,d0,d1,T,U,p0,p1,p2,p3,rfl,rfl,rfl,y,z,A,D⟩:=trodAll_four i;obtain⟨rfl,rfl⟩:=trodVars_none u;obtain⟨c,rfl,rfl,rfl,G⟩:=open_string underlying9 (a 0 9 N J J) y;obtain⟨d,rfl,rfl,rfl,I⟩:=open_string underlying9 (a 1 9 P J J) z;obtain⟨f,rfl,rfl,rfl,K⟩:=open_string underlying9 (a 2 9 Q J J) A;obtain⟨g,rfl,rfl,rfl,L⟩:=open_string underlying9 (a 3 9 R J J) D;clear hA0 m;simp only[Fu]at l;have o:c.size<=140737488351232:=by
  have h:=sized_string b (j:=0) (t:=9) (bytes:=c.data.toList) (by rw[params3];rfl) J;rw[CK]at h;exact h
 have r:d.size<=140737488351232:=by
  have h:=sized_string b (j:=1) (t:=9) (bytes:=d.data.toList) (by rw[params3];rfl) J;rw[CK]at h;exact h
 have n:f.size<=140737488351232:=by
  have h:=sized_string b (j:=2) (t:=9) (bytes:=f.data.toList) (by rw[params3];rfl) J;rw[CK]at h;exact h
 have s:g.size<=140737488351232:=by
  have h:=sized_string b (j:=3) (t:=9) (bytes:=g.data.toList) (by rw[params3];rfl) J;rw[CK]at h;exact h
 refine(M3.nE c d f g o r n s W).mono λe W' ⟨E,x⟩=>?_;subst E;refine⟨_,J,?_⟩;exact nG l (λ_ _ _=>trodAll_mk1 (shut_bool underlying4 _)) (λsp=>trodAll_mk4 (shut_string underlying9 G) (shut_string underlying9 I) (shut_string underlying9 K) (shut_string underlying9 L)) (λ_=>rfl) (x.frame _) (ok_one nK J (okWide_bool_mk underlying4 _))
def nI:Rows.SturmCountsSaid:=
 OpenClaim.holds_of_wide 3 Tryz.f3 J J J J J J J ⟨J,J,J,J,J⟩ J J J J J nK func3 nK
  (Bb nK) (by unfold Func.isWrapper;first|(rw[BG dk];kernel_rfl)|(rw[BD dk];exact⟨J,J⟩))
  (λos a H enc _=>nH os a H enc)
