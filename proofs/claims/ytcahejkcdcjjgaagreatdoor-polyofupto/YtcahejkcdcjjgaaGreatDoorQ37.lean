import Derived.Test.YtcahejkcdcjjgaaGreatDoorQ35
import Derived.Test.YtcahejkcdcjjgaaGreatDoorQ36
import Derived.Deep.DeepHandedRow
set_option linter.all false
open Go.Proofs.Tryz renaming prog->B
set_option maxRecDepth 99999
set_option maxHeartbeats 0
namespace Go.Proofs.YtcahejkcdcjjgaaGreatDoor
open Proofs.Tryz
open Go.ChangeMaps Go.ChangeShapes Go.WideShapes Go.ChangeAt Go.WideMaps Go.WideElems Go.RowKit
def TN{H:Type}:∀a:List ByteArray,a.length<=Rows.uptoBulkAll (strs (H:=H) a)/\∀s∈a,s.size<=Rows.uptoBulkAll (strs (H:=H) a):=by
 intro a;induction a with
 |nil=>exact⟨AH _,λs hs=>by cases hs⟩
 |cons s r c=>
  have e:Rows.uptoBulkAll (strs (H:=H) (s::r))=s.size+1+Rows.uptoBulkAll (strs (H:=H) r):=by
   simp only[strs,List.map_cons,Rows.uptoBulkAll,Rows.uptoBulk];rw[CK];rfl
  rw[e];refine⟨by rw[Ai];have:=c.1;omega,λx b=>?_⟩;rcases List.mem_cons.1 b with rfl|b
  . omega
  . have:=c.2 x b;omega
def laidOut:laidOutB B=true:=by kernel_rfl
def Tryz.cells_string:Tryz.prog.cellsOf 9=1:=by kernel_rfl
def TO(H:Type)(i:TypeId × Value->H)(W:World)(P:Nat)(args:Array Value)(ds r:List (DataW H))(Q:List MemPlace)
(E:∀(j:Nat) t v,Tryz.f4.params[j]?=some t->args[j]?=some v->Value.okWide B W .any P t v)
(y:DataW.Whole i B Tryz.f4.params.toList Rows.polyOfSpec.vars false W args.toList ds r Q)(A:Rows.uptoSmall H (ds++r)=true)(R:laidMetH B Fy W):
 Calls B 4 args W λe W'=>∃v,e=.returned v/\Rows.polyOfSpec.post i B Tryz.f4 false true false false W args v W':=by
 have k:=y;obtain⟨p,q,hA0,S,rfl,_,_⟩:=y;have u:DataW.TrodAll i B W 0 (λ_=>true) true Tryz.f4.params.toList args.toList ds p:=hA0;rw[params4]at u E;obtain⟨v0,d0,rfl,rfl,s⟩:=trodAll_one u;obtain⟨rfl,rfl⟩:=trodVars_none S;obtain⟨M,len,cap,rfl⟩:=okWide_slice underlying53 (E 0 53 v0 J J);have K:=s;obtain⟨ae,U⟩:=s;clear hA0;simp only[Ca]at k A;have o:∀x∈p,x.block<W.heap.size:=λx f=>by simpa using k.lt x f
 have fin:∀W':World,Bl W W'->Rows.polyOfSpec.post i B Tryz.f4 false true false false W #[.slice M len cap] (.bool true) W':=by
  intro W' D;exact⟨_,_,_,[],p,[],k,trodAll_mk1 (shut_bool underlying4 _),trodAll_mk1 (Below.trod laidOut TS (BX TS) K D o),J,D.frame _,λh=>by cases h⟩
 have w:=TM R;rcases open_strings underlying53 underlying9 Tryz.cells_string U with⟨d,f⟩|⟨a,aj,ad,c,d,_,hl,C,V,f,z,ai⟩
 . simp[Value.cells]at d;obtain⟨rfl,rfl,rfl⟩:=d;refine(My none 0 0 (λ_=>ByteArray.empty) W (λj n=>by omega) O (λj n=>by omega) w).mono λe W' ⟨m,l⟩=>?_;subst m;exact⟨_,J,fin W' l⟩
 . simp[Value.cells]at d;obtain⟨rfl,rfl,rfl⟩:=d;simp only[Prod.mk.injEq]at f;obtain⟨rfl,rfl⟩:=f;simp only[if_true]at V;have G:Rows.uptoBulkAll [DataW.slice (strs (H:=H) (c.take len)) (strs (c.drop len))]<=1048576:=BX A;simp only[Rows.uptoBulkAll,Rows.uptoBulk]at G;obtain⟨b1,N⟩:=TN (H:=H) (c.take len);have ah:(c.take len).length=len:=by rw[Ae];omega
   have T:∀j,j<len->∃b g,some a=some ⟨b,g,none⟩/\b<W.heap.size/\W.cell? ⟨b,g+j,none⟩=some (.string (c.getD j ByteArray.empty)):=λj n=>by
    obtain⟨b,g,X⟩:=a;have F:X=none:=by simpa[Addr.add]using World.cell?_spot (z 0 O)
    subst F;have I:b<W.heap.size:=o (.cell b g) (MemPlace.mem_row.2 ⟨0,O,sp⟩);exact⟨b,g,J,I,by rw[<-Yj];exact z j O⟩
   have L:∀j,j<len->(c.getD j ByteArray.empty).size<=140737488351232:=λj n=>by
    have C:c.getD j ByteArray.empty∈c.take len:=by
     rw[List.getD_eq_getElem?_getD,Ak O,CZ];exact List.mem_take_iff_getElem.2 ⟨j,O,J⟩
    have:=N _ C;omega
   refine(My (some a) len cap (λj=>c.getD j ByteArray.empty) W T O L w).mono λe W' ⟨m,l⟩=>?_;subst m;exact⟨_,J,fin W' l⟩
def TP(a:Os)(m:a.Started)(H:Type)(b:TypeId × Value->H)(F:Stop.Interp):
 ReturnsInHanded {} Tryz.checked a 4 .any ((Rows.OpenSpec.upto Rows.polyOfSpec).preRow b B Tryz.f4 Rows.polyOfUptoRow.domain false Rows.polyOfUptoRow.laid) (((Rows.OpenSpec.upto Rows.polyOfSpec).at F).post b B Tryz.f4 false true false false):=by
 refine returnsInHanded_of_row (C:=Tryz.checked) (s:=Rows.OpenSpec.upto Rows.polyOfSpec) own m TS func4
  ⟨World.laidAll B a Fy,λ_ _=>0,⟨#[],#[.slice none 0 0],[]⟩,World.laidAll_os _ _ _,World.shaped_of_ZipB TS TS,J,(Input.okWide_of_okWideB TS).2,
   OpenSpec.preRow_of_cond 8 (x:=([.nil],[],[])) TS TS (λk j=>by cases j;kernel_rfl) TS (TL a _),by
   simp only[Assume.holds];exact⟨sp,sp,λ_=>Modest.zero,sp,sp⟩⟩ ?_
 intro W c args ds e d l g _ i _ f _ _;exact TO H b W c args ds e d l g (i _ J) f
def TQ:Rows.PolyOfUptoSaid:=
 OpenClaim.holds_of_cond 4 Tryz.f4 J J J J J J J ⟨J,J,J,J,J⟩ J J J J J TS func4 TS
  (BX TS) (by unfold Func.isWrapper;first|(rw[BM FP];kernel_rfl)|(rw[BJ FP];exact⟨J,J⟩))
  (λb c H a _ F=>by rw[OpenClaim.pre_eq_preRow];exact TP b c H a F)
