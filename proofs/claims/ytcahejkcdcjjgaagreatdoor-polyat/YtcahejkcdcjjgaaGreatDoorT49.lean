import Derived.Test.YtcahejkcdcjjgaaGreatDoorT47
import Derived.Test.YtcahejkcdcjjgaaGreatDoorT48
open Go.Proofs.Tryz renaming prog->B
set_option maxRecDepth 100000
set_option maxHeartbeats 16000000
namespace Go.Proofs.YtcahejkcdcjjgaaGreatDoor
open Go.ChangeMaps Go.ChangeShapes Go.WideShapes Go.ChangeAt Go.WideMaps Go.WideElems Go.RowKit
theorem Zx(os:Os)(y:os.Started)(z:Type)(enc:TypeId × Value->z):
 ReturnsInHanded {} Tryz.checked os 6 .any (λw args=>(Rows.polyAtSpec.pre enc B Tryz.f6 [] false w args/\laidMetH B Ha w)/\sizedMet enc B Tryz.f6 (OpenSpec.ofChange Rows.polyAtSpec) false w args)
  (Rows.polyAtSpec.post enc B Tryz.f6 false true false false):=by
 refine returnsInHanded_of_change_and (C:=Tryz.checked) (X:=λw _=>laidMetH B Ha w) (λ_ _ _ r h=>h.of_heap r) own y (by kernel_rfl) Tryz.func6
  (ChangeSpec.witness_shaped (enc:=enc) (C:=Tryz.checked) (os:=os) (X:=λw _=>laidMetH B Ha w) false (World.laidAll B os Ha) #[.string ⟨#[]⟩,.string ⟨#[]⟩] 8 (World.laidAll_os _ _ _) (World.shaped_of_ZipB (by kernel_rfl) (by kernel_rfl)) (by kernel_rfl) (by kernel_rfl) (by kernel_rfl) (Zu os _)) ?_
 intro W base args ds N M d k _ f o _;have a:∀(j:Nat) t v,Tryz.f6.params[j]?=some t->args[j]?=some v->Value.okWide B W .any base t v:=d;have g:=k;obtain⟨p,q,hA0,G,rfl,J,I⟩:=k;have i:DataW.TrodAll enc B W 0 (λ_=>true) true Tryz.f6.params.toList args.toList ds p:=hA0;rw[Tryz.params6]at i a;obtain⟨n,F,d0,d1,L,K,rfl,rfl,rfl,A,E⟩:=trodAll_two i;obtain⟨rfl,rfl⟩:=trodVars_none G;obtain⟨c,rfl,rfl,rfl,u⟩:=open_string Tryz.underlying9 (a 0 9 n rfl rfl) A;obtain⟨b,rfl,rfl,rfl,D⟩:=open_string Tryz.underlying9 (a 1 9 F rfl rfl) E;clear hA0 d;simp only[Cm]at g;have l:c.size<=140737488351232:=by
  have h:=sized_string f (j:=0) (t:=9) (bytes:=c.data.toList) (by rw[Tryz.params6];rfl) rfl;rw[CR]at h;exact h
 have m:b.size<=140737488351232:=by
  have h:=sized_string f (j:=1) (t:=9) (bytes:=b.data.toList) (by rw[Tryz.params6];rfl) rfl;rw[CR]at h;exact h
 refine(Zt c b l m W (Zv o)).mono λe W' ⟨x,s⟩=>?_;subst x;refine⟨_,rfl,?_⟩;exact Zw g (λ_ _ _=>trodAll_mk1 (shut_bool Tryz.underlying4 _)) (λH=>trodAll_mk2 (shut_string Tryz.underlying9 u) (shut_string Tryz.underlying9 D)) (λ_=>rfl) (s.frame _) (ok_one (by kernel_rfl) rfl (okWide_bool_mk Tryz.underlying4 _))
theorem Zy:Rows.PolyAtSaid:=
 OpenClaim.holds_of_wide 6 Tryz.f6 rfl rfl rfl rfl rfl rfl rfl ⟨rfl,rfl,rfl,rfl,rfl⟩ rfl rfl rfl rfl rfl (by kernel_rfl) Tryz.func6 (by kernel_rfl)
  (Bg (by kernel_rfl)) (by unfold Func.isWrapper;first|(rw[BI IC];kernel_rfl)|(rw[BE IC];exact⟨rfl,rfl⟩))
  (λos b a enc _=>Zx os b a enc)
