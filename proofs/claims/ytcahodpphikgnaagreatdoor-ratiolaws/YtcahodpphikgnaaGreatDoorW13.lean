import Derived.Test.YtcahodpphikgnaaGreatDoorW12
set_option linter.all false
set_option maxRecDepth 99999
set_option maxHeartbeats 0
namespace Go.Proofs.YtcahodpphikgnaaGreatDoor
open Proofs.Tryz
open Go.RowKit Go.Shelf
def FT:(Tryz.prog.info? 101).map (·.size)=some 2:=by kernel_rfl
def IC:liesAt Tryz.prog Tryz.prog.depth 101 (2/Tryz.prog.cellsOf 101) 0 101 1=true:=by kernel_rfl
def Tryz.infoByte:(Tryz.prog.info? 5).map (fun i=>(i.zero,i.size,i.bytes))=some (some (.int .u8 0),1,1):=by kernel_rfl
def ID(b:Nat)(w:World)(h0:w.cell? ⟨b,0,none⟩=some (.pointer (some ⟨b,0,none⟩))):
 Calls Tryz.prog 112 #[.pointer (some ⟨b,0,none⟩)] w fun e w'=>e=.returned (.tuple #[])∧w'=w:=by
 obtain⟨j,hj,_⟩:=Option.map_eq_some_iff.1 FT;go_enter func112,ntmps112
 go_wp2;rw[Lib.run_neq_ptr_same w _ underlying99 hj];go_wp2;go_end0;exact⟨J,J⟩
def IE(b:Nat)(w:World)(h0:w.cell? ⟨b,0,none⟩=some (.pointer none))(hsh:w.shape? b=some (101,2))(hfz:w.frozen? ⟨b,0,none⟩=false):
 Calls Tryz.prog 112 #[.pointer (some ⟨b,0,none⟩)] w fun e w'=>e=.returned (.tuple #[])∧w'=w.setCell ⟨b,0,none⟩ (.pointer (some ⟨b,0,none⟩)):=by
 obtain⟨j,hj,hjs⟩:=Option.map_eq_some_iff.1 FT;go_enter func112,ntmps112
 go_wp2;rw[Lib.run_to_unsafe w ⟨b,0,none⟩ underlying99 underlying151 hj (by rw[hjs];decide) hsh (Nat.zero_lt_succ 1)];simp only[Result.andThen];rw[Oper.upon_value];go_wp2;rw[run_callFunc_extern func138 Lz Lz Lz (e:=Extern.AbiNoEscape.same) Lz];rw[Lib.run_noEscape];simp only[Result.andThen];rw[Oper.upon_value];go_wp2;rw[Lib.run_from_unsafe w ⟨b,0,none⟩ underlying151 underlying99 hj hsh IC];simp only[Result.andThen];rw[Oper.upon_value];go_wp2;go_end0;exact⟨J,J⟩
def IF(B b:Nat)(bs:List Value)(w:World)(h:Lib.IsBuilder 101 5 B b bs w):
 Calls Tryz.prog 112 #[.pointer (some ⟨b,0,none⟩)] w fun e w'=>e=.returned (.tuple #[])∧(Lib.BuilderAt 101 5 B b (.pointer (some ⟨b,0,none⟩)) bs w'∧Below B w w')∧∀k,k≠b→w'.heap[k]?=w.heap[k]?:=by
 rcases h with h|h
 · refine(IE b w h.cell0 h.shape h.frozen0).mono ?_;rintro e w' ⟨rfl,rfl⟩;exact⟨J,⟨h.used _,(BC B w).setCell (p:=⟨b,0,none⟩) h.1 _⟩,fun k hk=>BP _ _ _ k hk⟩
 · refine(ID b w h.cell0).mono ?_;rintro e w' ⟨rfl,rfl⟩;exact⟨J,⟨h,BC B _⟩,fun _ _=>rfl⟩
def YQ(B b:Nat)(bs:List Value)(s:ByteArray)(w:World)(h:Lib.IsBuilder 101 5 B b bs w)(hlen:bs.length+s.size≤140737488355328)(hBw:B≤w.heap.size):
 Calls Tryz.prog 82 #[.pointer (some ⟨b,0,none⟩),.string s] w fun e w'=>(∃v,e=.returned v)∧(Lib.BuilderAt 101 5 B b (.pointer (some ⟨b,0,none⟩)) (bs++Lib.strCells s) w'∧Below B w w')∧∀k o,w.heap[k]?=some o→k≠b→(∀cur z,o≠.cells cur 5 z)→w'.heap[k]?=some o:=by
 obtain⟨i0,hi,hz0,hz1,hz2⟩:=info_parts Tryz.infoByte;go_enter func82,ntmps82
 go_wp2_with(go_at_call 112;refine(IF B b bs _ h).mono ?_)
 rintro e w1 ⟨rfl,⟨h1,hb1⟩,hk1⟩;have Qb:=Ja hk1;clear hk1;obtain⟨hB,v,hbk,hown,hne⟩:=h1;have c1:w1.cell? ⟨b,1,none⟩=some v:=by rw[Lib.cell_of_heap hbk];rfl
 go_wp2_with(at_builtin;refine Lib.wpList_append_own_string _ J _ _ 71 9 J B 5 i0 underlying71 underlying9 hi hz0 hz1 hz2 _ _ _ J hown s J ?c3 ?c4 ?c5 ?_)
 case c3=>unfold maxLen;omega
 case c4=>omega
 case c5=>have:=hb1.size;omega
 intro v' w2 hown' hgrow _;have Qc:=(Ac.1 hbk).1;have Qa:w2.heap[b]?=some (.cells #[.pointer (some ⟨b,0,none⟩),v] 101 (0,0)):=(hgrow.block b Qc (fun e=>hne e.symm)).trans hbk;have d1:w2.cell? ⟨b,1,none⟩=some v:=by rw[Lib.cell_of_heap Qa];rfl
 have f1:=Lib.frozen_of_heap Qa 1;obtain⟨ao,n',cap,rfl⟩:∃ao n' cap,v'=.slice ao n' cap:=by
  rcases hown'.2 with⟨hv,_⟩|⟨g,cap,cur,hv,_⟩
  · exact⟨_,_,_,hv⟩
  · exact⟨_,_,_,hv⟩
 go_wp2;go_ret2
 refine⟨⟨_,J⟩,⟨?_,?_⟩,?_⟩
 · exact Lib.BuilderAt.put (T:=101) (e:=5) hB Qa (bs':=bs++Lib.strCells s) (by simpa[Lib.strCells_length]using hown') (by decide)
 · exact(hb1.grown hgrow (by have:=hb1.size;omega) (fun k hk=>(hown.lt k hk).1)).setCell (p:=⟨b,1,none⟩) hB _
 · intro k o hk hkb ho;have h1:=(Qb.o k hkb).trans hk;refine(BP _ _ _ k hkb).trans ((hgrow.block k (Ac.1 h1).1 (fun e=>?_)).trans h1);rcases hown.2 with⟨ev,_⟩|⟨g',cap',cur,ev,_,hc,_⟩
   · rw[ev]at e;cases e
   · rw[ev]at e;cases e;grind
