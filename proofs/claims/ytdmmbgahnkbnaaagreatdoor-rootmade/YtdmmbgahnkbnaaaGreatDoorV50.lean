import Derived.Test.YtdmmbgahnkbnaaaGreatDoorV48
import Derived.Test.YtdmmbgahnkbnaaaGreatDoorV49
import Derived.Deep.DeepHandedRow
set_option linter.all false
open Go.Proofs.Tryz renaming prog->B
set_option maxRecDepth 99999
set_option maxHeartbeats 0
namespace Go.Proofs.YtdmmbgahnkbnaaaGreatDoor
open Go.ChangeMaps Go.ChangeShapes Go.WideShapes Go.ChangeAt Go.WideMaps Go.WideElems Go.RowKit
def laidOut:laidOutB B=true:=by kernel_rfl
def Tryz.cells_string:Tryz.prog.cellsOf 9=1:=by kernel_rfl
def vd(os:Os)(U:os.Started)(H:Type)(enc:TypeId × Value->H):
 ReturnsInHanded {} Tryz.checked os 6 .any (λw args=>(Rows.rootMadeSpec.pre enc B Tryz.f6 [] false w args/\laidMetH B LD w)/\sizedMet enc B Tryz.f6 (OpenSpec.ofChange Rows.rootMadeSpec) false w args)
  (Rows.rootMadeSpec.post enc B Tryz.f6 false true false false):=by
 refine returnsInHanded_of_change_and (C:=Tryz.checked) (X:=λw _=>laidMetH B LD w) (λ_ _ _ hh h=>h.of_heap hh) own U (by kernel_rfl) Tryz.func6
  (ChangeSpec.witness_shaped (enc:=enc) (C:=Tryz.checked) (os:=os) (X:=λw _=>laidMetH B LD w) false (World.laidAll B os LD) #[.slice none 0 0,.int .i64 0,.int .i64 0] 8 (World.laidAll_os _ _ _) (World.shaped_of_ZipB (by kernel_rfl) (by kernel_rfl)) (by kernel_rfl) (by kernel_rfl) (by kernel_rfl) (vZ os _)) ?_
 intro W base args ds gs ah D y _ _ u _;have i:∀(j:Nat) t v,Tryz.f6.params[j]?=some t->args[j]?=some v->Value.okWide B W .any base t v:=D;have l:=y;obtain⟨p,q,hA0,L,rfl,am,an⟩:=y;have hA:DataW.TrodAll enc B W 0 (λ_=>true) true Tryz.f6.params.toList args.toList ds p:=hA0;rw[Tryz.params6]at hA i;obtain⟨V,v1,v2,d0,d1,d2,p0,p1,p2,rfl,rfl,rfl,s,N,P⟩:=trodAll_three hA;obtain⟨rfl,rfl⟩:=trodVars_none L;obtain⟨a0,len,cap,rfl⟩:=okWide_slice Tryz.underlying71 (i 0 71 V rfl rfl);obtain⟨c,rfl,rfl,rfl,E⟩:=open_int Tryz.underlying3 (i 1 3 v1 rfl rfl) N;obtain⟨o,rfl,rfl,rfl,ae⟩:=open_int Tryz.underlying3 (i 2 3 v2 rfl rfl) P;have I:=s;obtain⟨aj,Q⟩:=s;clear hA0 D;simp only[CC]at l;have r:∀x∈p0,x.block<W.heap.size:=λx f=>l.lt x (by simpa using f);have k:-9223372036854775808<=c/\c<=9223372036854775807:=by
  have K:IntKind.i64.min<=c/\c<=IntKind.i64.max:=by simpa[Lit.wf]using E
  simpa[IntKind.min,IntKind.max,IntKind.signed,IntKind.bits]using K
 have fin:∀W':World,Bl W W'->Rows.rootMadeSpec.post enc B Tryz.f6 false true false false W #[.slice a0 len cap,.int .i64 c,.int .i64 o] (.bool true) W':=by
  intro W' A;exact⟨_,_,_,[],p0++([]++[]),[],l,trodAll_mk1 (shut_bool Tryz.underlying4 _),trodAll_mk3 (Below.trod laidOut (by kernel_rfl) (BW (by kernel_rfl)) I A r) (shut_int Tryz.underlying3 E) (shut_int Tryz.underlying3 ae),rfl,A.frame _,λh=>by cases h⟩
 rcases open_strings Tryz.underlying71 Tryz.underlying9 Tryz.cells_string Q with⟨d,f⟩|⟨a,aq,ai,ss,d,_,hl,hm,S,f,z,ap⟩
 . simp[Value.cells]at d;obtain⟨rfl,rfl,rfl⟩:=d;refine(M3.bU none 0 0 (λ_=>ByteArray.empty) c o W (λj R=>by omega) k.1 k.2 (bV u)).mono λe W' ⟨n,m⟩=>?_;subst n;exact⟨_,rfl,fin W' m⟩
 . simp[Value.cells]at d;obtain⟨rfl,rfl,rfl⟩:=d;simp only[Fg]at f;obtain⟨rfl,rfl⟩:=f;simp only[if_true]at S;have M:∀j,j<len->∃b g,some a=some ⟨b,g,none⟩/\b<W.heap.size/\W.cell? ⟨b,g+j,none⟩=some (.string (ss.getD j ByteArray.empty)):=λj R=>by
    obtain⟨b,g,T⟩:=a;have F:T=none:=by simpa[Addr.add]using World.cell?_spot (z 0 O)
    subst F;have G:b<W.heap.size:=r (.cell b g) (MemPlace.mem_row.2 ⟨0,O,DI⟩);exact⟨b,g,rfl,G,by rw[<-Yk];exact z j O⟩
   refine(M3.bU (some a) len cap (λj=>ss.getD j ByteArray.empty) c o W M k.1 k.2 (bV u)).mono λe W' ⟨n,m⟩=>?_;subst n;exact⟨_,rfl,fin W' m⟩
def ve:Rows.RootMadeSaid:=
 OpenClaim.holds_of_wide 6 Tryz.f6 rfl rfl rfl rfl rfl rfl rfl ⟨rfl,rfl,rfl,rfl,rfl⟩ rfl rfl rfl rfl rfl (by kernel_rfl) Tryz.func6 (by unfold joinedFacts;simp only[Bool.and_eq_true];and_intros<;>as_aux_lemma=>kernel_rfl)
  (BW (by kernel_rfl)) (by unfold Func.isWrapper;first|(rw[BF EM];kernel_rfl)|(rw[BE EM];exact⟨rfl,rfl⟩))
  (λos a H enc _=>vd os a H enc)
