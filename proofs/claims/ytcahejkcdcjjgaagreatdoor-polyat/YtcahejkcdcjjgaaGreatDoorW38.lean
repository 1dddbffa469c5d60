import Derived.Test.YtcahejkcdcjjgaaGreatDoorW36
import Derived.Test.YtcahejkcdcjjgaaGreatDoorW37
set_option linter.all false
open Go.Proofs.Tryz renaming prog->B
set_option maxRecDepth 99999
set_option maxHeartbeats 0
namespace Go.Proofs.YtcahejkcdcjjgaaGreatDoor
open Proofs.Tryz
open Go.ChangeMaps Go.ChangeShapes Go.WideShapes Go.ChangeAt Go.WideMaps Go.WideElems Go.RowKit
def Zs(os:Os)(F:os.Started)(l:Type)(enc:TypeId × Value->l):
 ReturnsInHanded {} Tryz.checked os 6 .any (λw args=>(Rows.polyAtSpec.pre enc B Tryz.f6 [] false w args/\laidMetH B GO w)/\sizedMet enc B Tryz.f6 (OpenSpec.ofChange Rows.polyAtSpec) false w args)
  (Rows.polyAtSpec.post enc B Tryz.f6 false true false false):=by
 refine returnsInHanded_of_change_and (C:=Tryz.checked) (X:=λw _=>laidMetH B GO w) (λ_ _ _ A h=>h.of_heap A) own F Zv func6
  (ChangeSpec.witness_shaped (enc:=enc) (C:=Tryz.checked) (os:=os) (X:=λw _=>laidMetH B GO w) false (World.laidAll B os GO) #[.string ⟨#[]⟩,.string ⟨#[]⟩] 8 (World.laidAll_os _ _ _) (World.shaped_of_ZipB Zv Zv) Zv Zv Zv (Zo os _)) ?_
 intro W o args ds K I k f _ i r _;have a:∀(j:Nat) t v,Tryz.f6.params[j]?=some t->args[j]?=some v->Value.okWide B W .any o t v:=k;have g:=f;obtain⟨p,q,hA0,s,rfl,L,M⟩:=f;have d:DataW.TrodAll enc B W 0 (λ_=>true) true Tryz.f6.params.toList args.toList ds p:=hA0;rw[params6]at d a;obtain⟨G,H,d0,d1,p0,p1,rfl,rfl,rfl,x,y⟩:=trodAll_two d;obtain⟨rfl,rfl⟩:=trodVars_none s;obtain⟨b,rfl,rfl,rfl,D⟩:=open_string underlying9 (a 0 9 G J J) x;obtain⟨c,rfl,rfl,rfl,E⟩:=open_string underlying9 (a 1 9 H J J) y;clear hA0 k;simp only[Ce]at g;have n:b.size<=140737488351232:=by
  have h:=sized_string i (j:=0) (t:=9) (bytes:=b.data.toList) (by rw[params6];rfl) J;rw[CR]at h;exact h
 have m:c.size<=140737488351232:=by
  have h:=sized_string i (j:=1) (t:=9) (bytes:=c.data.toList) (by rw[params6];rfl) J;rw[CR]at h;exact h
 refine(Zn b c n m W (Zp r)).mono λe W' ⟨z,u⟩=>?_;subst z;refine⟨_,J,?_⟩;exact Zq g (λ_ _ _=>trodAll_mk1 (shut_bool underlying4 _)) (λN=>trodAll_mk2 (shut_string underlying9 D) (shut_string underlying9 E)) (λ_=>rfl) (u.frame _) (ok_one Zv J (okWide_bool_mk underlying4 _))
def Zt:Rows.PolyAtSaid:=
 OpenClaim.holds_of_wide 6 Tryz.f6 J J J J J J J ⟨J,J,J,J,J⟩ J J J J J Zv func6 Zv
  (Bh Zv) (by unfold Func.isWrapper;first|(rw[BL Gt];kernel_rfl)|(rw[BH Gt];exact⟨J,J⟩))
  (λos b a enc _=>Zs os b a enc)
