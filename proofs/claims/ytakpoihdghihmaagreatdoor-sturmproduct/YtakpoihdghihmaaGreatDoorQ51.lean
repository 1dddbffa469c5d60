import Derived.Test.YtakpoihdghihmaaGreatDoorQ49
import Derived.Test.YtakpoihdghihmaaGreatDoorQ50
open Go.Proofs.Tryz renaming prog->B
set_option maxRecDepth 100000
set_option maxHeartbeats 16000000
namespace Go.Proofs.YtakpoihdghihmaaGreatDoor
open Go.ChangeMaps Go.ChangeShapes Go.WideShapes Go.ChangeAt Go.WideMaps Go.WideElems Go.RowKit
theorem eF(os:Os)(G:os.Started)(H:Type)(enc:TypeId × Value->H):
 ReturnsInHanded {} Tryz.checked os 6 .any (λw args=>(Rows.sturmProductSpec.pre enc B Tryz.f6 [] false w args/\laidMetH B Iq w)/\sizedMet enc B Tryz.f6 (OpenSpec.ofChange Rows.sturmProductSpec) false w args)
  (Rows.sturmProductSpec.post enc B Tryz.f6 false true false false):=by
 refine returnsInHanded_of_change_and (C:=Tryz.checked) (X:=λw _=>laidMetH B Iq w) (λ_ _ _ A h=>h.of_heap A) own G (by kernel_rfl) Tryz.func6
  (ChangeSpec.witness_shaped (enc:=enc) (C:=Tryz.checked) (os:=os) (X:=λw _=>laidMetH B Iq w) false (World.laidAll B os Iq) #[.string ⟨#[]⟩,.string ⟨#[]⟩,.string ⟨#[]⟩] 8 (World.laidAll_os _ _ _) (World.shaped_of_ZipB (by kernel_rfl) (by kernel_rfl)) (by kernel_rfl) (by kernel_rfl) (by kernel_rfl) (eD os _)) ?_
 intro W base args ds P M l i _ b Q _;have a:∀(j:Nat) t v,Tryz.f6.params[j]?=some t->args[j]?=some v->Value.okWide B W .any base t v:=l;have k:=i;obtain⟨p,q,hA0,r,rfl,R,S⟩:=i;have g:DataW.TrodAll enc B W 0 (λ_=>true) true Tryz.f6.params.toList args.toList ds p:=hA0;rw[Tryz.params6]at g a;obtain⟨I,K,L,d0,d1,N,p0,T,U,rfl,rfl,rfl,u,x,y⟩:=trodAll_three g;obtain⟨rfl,rfl⟩:=trodVars_none r;obtain⟨c,rfl,rfl,rfl,D⟩:=open_string Tryz.underlying9 (a 0 9 I rfl rfl) u;obtain⟨d,rfl,rfl,rfl,E⟩:=open_string Tryz.underlying9 (a 1 9 K rfl rfl) x;obtain⟨f,rfl,rfl,rfl,F⟩:=open_string Tryz.underlying9 (a 2 9 L rfl rfl) y;clear hA0 l;simp only[Fc]at k;have n:c.size<=140737488351232:=by
  have h:=sized_string b (j:=0) (t:=9) (bytes:=c.data.toList) (by rw[Tryz.params6];rfl) rfl;rw[Ff]at h;exact h
 have m:d.size<=140737488351232:=by
  have h:=sized_string b (j:=1) (t:=9) (bytes:=d.data.toList) (by rw[Tryz.params6];rfl) rfl;rw[Ff]at h;exact h
 have o:f.size<=140737488351232:=by
  have h:=sized_string b (j:=2) (t:=9) (bytes:=f.data.toList) (by rw[Tryz.params6];rfl) rfl;rw[Ff]at h;exact h
 refine(M3.eC c d f n m o W).mono λe W' ⟨z,s⟩=>?_;subst z;refine⟨_,rfl,?_⟩;exact eE k (λ_ _ _=>trodAll_mk1 (shut_bool Tryz.underlying4 _)) (λV=>trodAll_mk3 (shut_string Tryz.underlying9 D) (shut_string Tryz.underlying9 E) (shut_string Tryz.underlying9 F)) (λ_=>rfl) (s.frame _) (ok_one (by kernel_rfl) rfl (okWide_bool_mk Tryz.underlying4 _))
theorem eG:Rows.SturmProductSaid:=
 OpenClaim.holds_of_wide 6 Tryz.f6 rfl rfl rfl rfl rfl rfl rfl ⟨rfl,rfl,rfl,rfl,rfl⟩ rfl rfl rfl rfl rfl (by kernel_rfl) Tryz.func6 (by kernel_rfl)
  (Bh (by kernel_rfl)) (by unfold Func.isWrapper;first|(rw[BH dk];kernel_rfl)|(rw[BB dk];exact⟨rfl,rfl⟩))
  (λos a H enc _=>eF os a H enc)
