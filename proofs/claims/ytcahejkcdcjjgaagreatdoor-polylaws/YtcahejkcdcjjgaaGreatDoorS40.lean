import Derived.Test.YtcahejkcdcjjgaaGreatDoorS38
import Derived.Test.YtcahejkcdcjjgaaGreatDoorS39
set_option linter.all false
open Go.Proofs.Tryz renaming prog->B
set_option maxRecDepth 99999
set_option maxHeartbeats 0
namespace Go.Proofs.YtcahejkcdcjjgaaGreatDoor
open Proofs.Tryz
open Go.ChangeMaps Go.ChangeShapes Go.WideShapes Go.ChangeAt Go.WideMaps Go.WideElems Go.RowKit
def WM(os:Os)(P:os.Started)(n:Type)(enc:TypeId × Value->n):
 ReturnsInHanded {} Tryz.checked os 7 .any (λw args=>(Rows.polyLawsSpec.pre enc B Tryz.f7 [] false w args/\laidMetH B GM w)/\sizedMet enc B Tryz.f7 (OpenSpec.ofChange Rows.polyLawsSpec) false w args)
  (Rows.polyLawsSpec.post enc B Tryz.f7 false true false false):=by
 refine returnsInHanded_of_change_and (C:=Tryz.checked) (X:=λw _=>laidMetH B GM w) (λ_ _ _ I h=>h.of_heap I) own P WS func7
  (ChangeSpec.witness_shaped (enc:=enc) (C:=Tryz.checked) (os:=os) (X:=λw _=>laidMetH B GM w) false (World.laidAll B os GM) #[.string ⟨#[]⟩,.string ⟨#[]⟩,.string ⟨#[]⟩,.string ⟨#[]⟩] 8 (World.laidAll_os _ _ _) (World.shaped_of_ZipB WS WS) WS WS WS (WJ os _)) ?_
 intro W x args ds gs U m k _ b y _;have a:∀(j:Nat) t v,Tryz.f7.params[j]?=some t->args[j]?=some v->Value.okWide B W .any x t v:=m;have l:=k;obtain⟨p,q,hA0,z,rfl,ad,ae⟩:=k;have i:DataW.TrodAll enc B W 0 (λ_=>true) true Tryz.f7.params.toList args.toList ds p:=hA0;rw[params7]at i a;obtain⟨Q,R,S,T,d0,d1,V,d3,p0,p1,p2,p3,rfl,rfl,rfl,D,E,F,G⟩:=trodAll_four i;obtain⟨rfl,rfl⟩:=trodVars_none z;obtain⟨c,rfl,rfl,rfl,K⟩:=open_string underlying9 (a 0 9 Q J J) D;obtain⟨d,rfl,rfl,rfl,L⟩:=open_string underlying9 (a 1 9 R J J) E;obtain⟨f,rfl,rfl,rfl,M⟩:=open_string underlying9 (a 2 9 S J J) F;obtain⟨g,rfl,rfl,rfl,N⟩:=open_string underlying9 (a 3 9 T J J) G;clear hA0 m;simp only[CH]at l;have r:c.size<=140737488351232:=by
  have h:=sized_string b (j:=0) (t:=9) (bytes:=c.data.toList) (by rw[params7];rfl) J;rw[CL]at h;exact h
 have s:d.size<=140737488351232:=by
  have h:=sized_string b (j:=1) (t:=9) (bytes:=d.data.toList) (by rw[params7];rfl) J;rw[CL]at h;exact h
 have o:f.size<=140737488351232:=by
  have h:=sized_string b (j:=2) (t:=9) (bytes:=f.data.toList) (by rw[params7];rfl) J;rw[CL]at h;exact h
 have u:g.size<=140737488351232:=by
  have h:=sized_string b (j:=3) (t:=9) (bytes:=g.data.toList) (by rw[params7];rfl) J;rw[CL]at h;exact h
 refine(WI c d f g r s o u W (WK y)).mono λe W' ⟨H,A⟩=>?_;subst H;refine⟨_,J,?_⟩;exact WL l (λ_ _ _=>trodAll_mk1 (shut_bool underlying4 _)) (λsp=>trodAll_mk4 (shut_string underlying9 K) (shut_string underlying9 L) (shut_string underlying9 M) (shut_string underlying9 N)) (λ_=>rfl) (A.frame _) (ok_one WS J (okWide_bool_mk underlying4 _))
def WN:Rows.PolyLawsSaid:=
 OpenClaim.holds_of_wide 7 Tryz.f7 J J J J J J J ⟨J,J,J,J,J⟩ J J J J J WS func7 WS
  (B3 WS) (by unfold Func.isWrapper;first|(rw[Br Gj];kernel_rfl)|(rw[Bk Gj];exact⟨J,J⟩))
  (λos b a enc _=>WM os b a enc)
