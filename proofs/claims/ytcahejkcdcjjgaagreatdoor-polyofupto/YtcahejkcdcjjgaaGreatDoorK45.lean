import Derived.Test.YtcahejkcdcjjgaaGreatDoorK43
import Derived.Test.YtcahejkcdcjjgaaGreatDoorK44
import Derived.Deep.DeepHandedRow
set_option maxRecDepth 100000
set_option maxHeartbeats 16000000
namespace Go.Proofs.YtcahejkcdcjjgaaGreatDoor
open Go.ChangeMaps Go.ChangeShapes Go.WideShapes Go.ChangeAt Go.WideMaps Go.WideElems Go.RowKit
theorem Jne {H:Type}:∀ ss:List ByteArray,ss.length≤Rows.uptoBulkAll (strs (H:=H) ss)∧∀ s∈ss,s.size≤Rows.uptoBulkAll (strs (H:=H) ss):=by
 intro ss;induction ss with
 | nil=>exact ⟨Nat.zero_le _,fun s hs=>by cases hs⟩
 | cons s r ih=>
  have e:Rows.uptoBulkAll (strs (H:=H) (s::r))=s.size+1+Rows.uptoBulkAll (strs (H:=H) r):=by
   simp only [strs,List.map_cons,Rows.uptoBulkAll,Rows.uptoBulk];rw [Array.length_toList];rfl
  rw [e];refine ⟨by rw [List.length_cons];have:=ih.1;omega,fun x hx=>?_⟩;rcases List.mem_cons.1 hx with rfl | hx
  · omega
  · have:=ih.2 x hx;omega
theorem laidOut:laidOutB Tryz.prog=true:=by kernel_rfl
theorem Tryz.cells_string:Tryz.prog.cellsOf 9=1:=by kernel_rfl
theorem Jdu (H:Type) (enc:TypeId × Value→H) (W:World) (base:Nat) (args:Array Value) (ds gs:List (DataW H)) (before:List MemPlace)
 (hval:∀ (j:Nat) t v,Tryz.f4.params[j]?=some t→args[j]?=some v→Value.okWide Tryz.prog W .any base t v)
 (hW:DataW.Whole enc Tryz.prog Tryz.f4.params.toList Rows.polyOfSpec.vars false W args.toList ds gs before) (hk:Rows.uptoSmall H (ds++gs)=true) (hL:laidMetH Tryz.prog Jjf W) :
 Calls Tryz.prog 4 args W fun e W'=>∃ v,e=.returned v∧Rows.polyOfSpec.post enc Tryz.prog Tryz.f4 false true false false W args v W':=by
 have hW':=hW;obtain ⟨p,q,hA0,hV,rfl,_,_⟩:=hW;have hA:DataW.TrodAll enc Tryz.prog W 0 (fun _=>true) true Tryz.f4.params.toList args.toList ds p:=hA0;rw [Tryz.params4] at hA hval;obtain ⟨v0,d0,rfl,rfl,h0⟩:=trodAll_one hA;obtain ⟨rfl,rfl⟩:=trodVars_none hV;obtain ⟨a0,len,cap,rfl⟩:=okWide_slice Tryz.underlying53 (hval 0 53 v0 rfl rfl);have h0k:=h0;obtain ⟨fuel,hf⟩:=h0;clear hA0;simp only [List.append_nil] at hW' hk;have hlt:∀ x∈p,x.block<W.heap.size:=fun x hx=>by simpa using hW'.lt x hx
 have fin:∀ W':World,Below W.heap.size W W'→Rows.polyOfSpec.post enc Tryz.prog Tryz.f4 false true false false W #[.slice a0 len cap] (.bool true) W':=by
  intro W' hnx;exact ⟨_,_,_,[],p,[],hW',trodAll_mk1 (shut_bool Tryz.underlying4 _),trodAll_mk1 (Below.trod laidOut (by kernel_rfl) (of_decide_eq_true (by kernel_rfl)) h0k hnx hlt),rfl,hnx.frame _,fun h=>by cases h⟩
 have hT:=Jjg hL;rcases open_strings Tryz.underlying53 Tryz.underlying9 Tryz.cells_string hf with ⟨hcs,hx⟩ | ⟨a,len',cap',ss,hcs,_,hl,hm,hz,hx,hcell,hws⟩
 · simp [Value.cells] at hcs;obtain ⟨rfl,rfl,rfl⟩:=hcs;refine (Jje none 0 0 (fun _=>ByteArray.empty) W (fun j hj=>by omega) (by omega) (fun j hj=>by omega) hT).mono fun e W' ⟨he,hb⟩=>?_;subst he;exact ⟨_,rfl,fin W' hb⟩
 · simp [Value.cells] at hcs;obtain ⟨rfl,rfl,rfl⟩:=hcs;simp only [Prod.mk.injEq] at hx;obtain ⟨rfl,rfl⟩:=hx;simp only [if_true] at hz;have hbk:Rows.uptoBulkAll [DataW.slice (strs (H:=H) (ss.take len)) (strs (ss.drop len))]≤1048576:=of_decide_eq_true hk;simp only [Rows.uptoBulkAll,Rows.uptoBulk] at hbk;obtain ⟨b1,b2⟩:=Jne (H:=H) (ss.take len);have hlen:(ss.take len).length=len:=by rw [List.length_take];omega
   have hc:∀ j,j<len→∃ b off,some a=some ⟨b,off,none⟩∧b<W.heap.size∧W.cell? ⟨b,off+j,none⟩=some (.string (ss.getD j ByteArray.empty)):=fun j hj=>by
    obtain ⟨b,off,spot⟩:=a;have hspot:spot=none:=by simpa [Addr.add] using World.cell?_spot (hcell 0 (by omega))
    subst hspot;have hbW:b<W.heap.size:=hlt (.cell b off) (MemPlace.mem_row.2 ⟨0,by omega,by simp⟩);exact ⟨b,off,rfl,hbW,by rw [←Ys];exact hcell j (by omega)⟩
   have hsz:∀ j,j<len→(ss.getD j ByteArray.empty).size≤140737488351232:=fun j hj=>by
    have hm:ss.getD j ByteArray.empty∈ss.take len:=by
     rw [List.getD_eq_getElem?_getD,List.getElem?_eq_getElem (by omega),Option.getD_some];exact List.mem_take_iff_getElem.2 ⟨j,by omega,rfl⟩
    have:=b2 _ hm;omega
   refine (Jje (some a) len cap (fun j=>ss.getD j ByteArray.empty) W hc (by omega) hsz hT).mono fun e W' ⟨he,hb⟩=>?_;subst he;exact ⟨_,rfl,fin W' hb⟩
theorem Jfx (os:Os) (started:os.Started) (H:Type) (enc:TypeId × Value→H) (F:Stop.Interp) :
 ReturnsInHanded {} Tryz.checked os 4 .any ((Rows.OpenSpec.upto Rows.polyOfSpec).preRow enc Tryz.prog Tryz.f4 Rows.polyOfUptoRow.domain false Rows.polyOfUptoRow.laid) (((Rows.OpenSpec.upto Rows.polyOfSpec).at F).post enc Tryz.prog Tryz.f4 false true false false):=by
 refine returnsInHanded_of_row (C:=Tryz.checked) (s:=Rows.OpenSpec.upto Rows.polyOfSpec) own started (by kernel_rfl) Tryz.func4
  ⟨World.laidAll Tryz.prog os Jjf,fun _ _=>0,⟨#[],#[.slice none 0 0],[]⟩,World.laidAll_os _ _ _,World.shaped_of_ZipB (by kernel_rfl) (by kernel_rfl),rfl,(Input.okWide_of_okWideB (by kernel_rfl)).2,
   OpenSpec.preRow_of_cond 8 (x:=([.nil],[],[])) (by kernel_rfl) (by kernel_rfl) (fun k hk=>by cases hk;kernel_rfl) (by kernel_rfl) (Jps os _),by
   simp only [Assume.holds];exact ⟨by simp,by simp,fun _=>Modest.zero,by simp,by simp⟩⟩ ?_
 intro W base args ds gs before hval hW _ hcond _ hL _ _;exact Jdu H enc W base args ds gs before hval hW (hcond _ rfl) hL
theorem Jhn:Rows.PolyOfUptoSaid:=
 OpenClaim.holds_of_cond 4 Tryz.f4 rfl rfl rfl rfl rfl rfl rfl ⟨rfl,rfl,rfl,rfl,rfl⟩ rfl rfl rfl rfl rfl (by kernel_rfl) Tryz.func4 (by kernel_rfl)
  (of_decide_eq_true (by kernel_rfl)) (by unfold Func.isWrapper;first | (rw [if_pos (by decide +kernel)];kernel_rfl) | (rw [if_neg (by decide +kernel)];exact ⟨rfl,rfl⟩))
  (fun os started H enc _ F=>by rw [OpenClaim.pre_eq_preRow];exact Jfx os started H enc F)
end Go.Proofs.YtcahejkcdcjjgaaGreatDoor
