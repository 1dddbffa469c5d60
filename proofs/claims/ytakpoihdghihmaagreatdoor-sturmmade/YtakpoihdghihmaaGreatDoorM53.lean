import Derived.Test.YtakpoihdghihmaaGreatDoorM51
import Derived.Test.YtakpoihdghihmaaGreatDoorM52
import Derived.Deep.DeepHandedRow
open Go.Proofs.Tryz renaming prog->B
set_option maxRecDepth 100000
set_option maxHeartbeats 16000000
namespace Go.Proofs.YtakpoihdghihmaaGreatDoor
open Go.ChangeMaps Go.ChangeShapes Go.WideShapes Go.ChangeAt Go.WideMaps Go.WideElems Go.RowKit
theorem laidOut:laidOutB B=true:=by kernel_rfl
theorem Tryz.cells_string:Tryz.prog.cellsOf 9=1:=by kernel_rfl
theorem cI(os:Os)(ae:os.Started)(H:Type)(enc:TypeId × Value->H):
 ReturnsInHanded {} Tryz.checked os 4 .any (λw args=>(Rows.sturmMadeSpec.pre enc B Tryz.f4 [] false w args/\laidMetH B IP w)/\sizedMet enc B Tryz.f4 (OpenSpec.ofChange Rows.sturmMadeSpec) false w args)
  (Rows.sturmMadeSpec.post enc B Tryz.f4 false true false false):=by
 refine returnsInHanded_of_change_and (C:=Tryz.checked) (X:=λw _=>laidMetH B IP w) (λ_ _ _ S h=>h.of_heap S) own ae (by kernel_rfl) Tryz.func4
  (ChangeSpec.witness_shaped (enc:=enc) (C:=Tryz.checked) (os:=os) (X:=λw _=>laidMetH B IP w) false (World.laidAll B os IP) #[.slice none 0 0,.int .i64 0,.string ⟨#[]⟩] 8 (World.laidAll_os _ _ _) (World.shaped_of_ZipB (by kernel_rfl) (by kernel_rfl)) (by kernel_rfl) (by kernel_rfl) (by kernel_rfl) (cH os _)) ?_
 intro W base args ds gs af A u _ _ hL _;have g:∀(j:Nat) t v,Tryz.f4.params[j]?=some t->args[j]?=some v->Value.okWide B W .any base t v:=A;have k:=u;obtain⟨p,q,hA0,M,rfl,aj,ak⟩:=u;have s:DataW.TrodAll enc B W 0 (λ_=>true) true Tryz.f4.params.toList args.toList ds p:=hA0;rw[Tryz.params4]at s g;obtain⟨v0,v1,v2,d0,d1,d2,p0,p1,p2,rfl,rfl,rfl,r,P,Q⟩:=trodAll_three s;obtain⟨rfl,rfl⟩:=trodVars_none M;obtain⟨K,len,cap,rfl⟩:=okWide_slice Tryz.underlying53 (g 0 53 v0 rfl rfl);obtain⟨c,rfl,rfl,rfl,E⟩:=open_int Tryz.underlying3 (g 1 3 v1 rfl rfl) P;obtain⟨n,rfl,rfl,rfl,U⟩:=open_string Tryz.underlying9 (g 2 9 v2 rfl rfl) Q;have I:=r;obtain⟨ai,R⟩:=r;clear hA0 A;simp only[C1]at k;have o:∀x∈p0,x.block<W.heap.size:=λx f=>k.lt x (by simpa using f);have i:-9223372036854775808<=c/\c<=9223372036854775807:=by
  have L:IntKind.i64.min<=c/\c<=IntKind.i64.max:=by simpa[Lit.wf]using E
  simpa[IntKind.min,IntKind.max,IntKind.signed,IntKind.bits]using L
 have fin:∀W':World,Bl W W'->Rows.sturmMadeSpec.post enc B Tryz.f4 false true false false W #[.slice K len cap,.int .i64 c,.string n] (.bool true) W':=by
  intro W' z;exact⟨_,_,_,[],p0++([]++[]),[],k,trodAll_mk1 (shut_bool Tryz.underlying4 _),trodAll_mk3 (Below.trod laidOut (by kernel_rfl) (BW (by kernel_rfl)) I z o) (shut_int Tryz.underlying3 E) (shut_string Tryz.underlying9 U),rfl,z.frame _,λh=>by cases h⟩
 rcases open_strings Tryz.underlying53 Tryz.underlying9 Tryz.cells_string R with⟨d,f⟩|⟨a,an,ah,D,d,_,hl,hm,V,f,y,am⟩
 . simp[Value.cells]at d;obtain⟨rfl,rfl,rfl⟩:=d;refine(M3.Q6 none 0 0 (λ_=>ByteArray.empty) c n W (λj T=>by omega) i.1 i.2).mono λe W' ⟨m,l⟩=>?_;subst m;exact⟨_,rfl,fin W' l⟩
 . simp[Value.cells]at d;obtain⟨rfl,rfl,rfl⟩:=d;simp only[Fj]at f;obtain⟨rfl,rfl⟩:=f;simp only[if_true]at V;have N:∀j,j<len->∃b off,some a=some ⟨b,off,none⟩/\b<W.heap.size/\W.cell? ⟨b,off+j,none⟩=some (.string (D.getD j ByteArray.empty)):=λj T=>by
    obtain⟨b,off,ad⟩:=a;have F:ad=none:=by simpa[Addr.add]using World.cell?_spot (y 0 Y)
    subst F;have G:b<W.heap.size:=o (.cell b off) (MemPlace.mem_row.2 ⟨0,Y,Z⟩);exact⟨b,off,rfl,G,by rw[<-Yu];exact y j Y⟩
   refine(M3.Q6 (some a) len cap (λj=>D.getD j ByteArray.empty) c n W N i.1 i.2).mono λe W' ⟨m,l⟩=>?_;subst m;exact⟨_,rfl,fin W' l⟩
theorem cJ:Rows.SturmMadeSaid:=
 OpenClaim.holds_of_wide 4 Tryz.f4 rfl rfl rfl rfl rfl rfl rfl ⟨rfl,rfl,rfl,rfl,rfl⟩ rfl rfl rfl rfl rfl (by kernel_rfl) Tryz.func4 (by kernel_rfl)
  (BW (by kernel_rfl)) (by unfold Func.isWrapper;first|(rw[BE dk];kernel_rfl)|(rw[BC dk];exact⟨rfl,rfl⟩))
  (λos a H enc _=>cI os a H enc)
