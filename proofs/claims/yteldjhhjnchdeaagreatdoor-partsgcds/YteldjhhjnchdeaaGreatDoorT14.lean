import Derived.Test.YteldjhhjnchdeaaGreatDoorT13
import Derived.Lib.AppendStr
import Derived.Lib.UnsafeStr
import Derived.Laws.Externs
import Derived.Shelf.Strings.Builder1
open Go.Value renaming pointer->C
set_option maxRecDepth 100000
set_option maxHeartbeats 16000000
namespace Go.Proofs.YteldjhhjnchdeaaGreatDoor
open Go.RowKit Go.Shelf
theorem Ps:(Tryz.prog.info? 71).map (·.size)=some 2:=by kernel_rfl
theorem VR:liesAt Tryz.prog Tryz.prog.depth 71 (2/Tryz.prog.cellsOf 71) 0 71 1=true:=by kernel_rfl
theorem Tryz.infoByte:(Tryz.prog.info? 5).map (λi=>(i.zero,i.size,i.bytes))=some (some (.int .u8 0),1,1):=by kernel_rfl
theorem VS(b:Nat)(w:World)(d:w.cell? ⟨b,0,none⟩=some (C (some ⟨b,0,none⟩))):
 Calls Tryz.prog 69 #[C (some ⟨b,0,none⟩)] w λe c=>e=.returned (.tuple #[])/\c=w:=by
 obtain⟨j,a,_⟩:=FD.1 Ps;go_enter Tryz.func69,Tryz.ntmps69
 go_wp2;rw[Lib.run_neq_ptr_same w _ Tryz.underlying68 a];go_wp2;go_end0;exact⟨rfl,rfl⟩
theorem VT(b:Nat)(w:World)(i:w.cell? ⟨b,0,none⟩=some (C none))(a:w.shape? b=some (71,2))(g:w.frozen? ⟨b,0,none⟩=false):
 Calls Tryz.prog 69 #[C (some ⟨b,0,none⟩)] w λe f=>e=.returned (.tuple #[])/\f=w.setCell ⟨b,0,none⟩ (C (some ⟨b,0,none⟩)):=by
 obtain⟨j,c,d⟩:=FD.1 Ps;go_enter Tryz.func69,Tryz.ntmps69
 go_wp2;rw[Lib.run_to_unsafe w ⟨b,0,none⟩ Tryz.underlying68 Tryz.underlying137 c (by rw[d];decide) a (Nat.zero_lt_succ 1)];simp only[Result.andThen];rw[Oper.upon_value];go_wp2;rw[run_callFunc_extern Tryz.func105 (by kernel_rfl) (by kernel_rfl) (by kernel_rfl) (e:=Extern.AbiNoEscape.same) (by kernel_rfl)];rw[Lib.run_noEscape];simp only[Result.andThen];rw[Oper.upon_value];go_wp2;rw[Lib.run_from_unsafe w ⟨b,0,none⟩ Tryz.underlying137 Tryz.underlying68 c a VR];simp only[Result.andThen];rw[Oper.upon_value];go_wp2;go_end0;exact⟨rfl,rfl⟩
theorem VU(B b:Nat)(bs:List Value)(w:World)(h:Lib.IsBuilder 71 5 B b bs w):
 Calls Tryz.prog 69 #[C (some ⟨b,0,none⟩)] w λe a=>e=.returned (.tuple #[])/\(Lib.BuilderAt 71 5 B b (C (some ⟨b,0,none⟩)) bs a/\Below B w a)/\∀k,k≠b->a.heap[k]?=w.heap[k]?:=by
 rcases h with h|h
 . refine(VT b w h.cell0 h.shape h.frozen0).mono ?_;rintro e a ⟨rfl,rfl⟩;exact⟨rfl,⟨h.used _,(BB B w).setCell (p:=⟨b,0,none⟩) h.1 _⟩,λk c=>BD _ _ _ k c⟩
 . refine(VS b w h.cell0).mono ?_;rintro e a ⟨rfl,rfl⟩;exact⟨rfl,⟨h,BB B _⟩,λ_ _=>rfl⟩
theorem L0(B b:Nat)(bs:List Value)(s:ByteArray)(w:World)(h:Lib.IsBuilder 71 5 B b bs w)(Q:bs.length+s.size<=140737488355328)(R:B<=w.heap.size):
 Calls Tryz.prog 32 #[C (some ⟨b,0,none⟩),.string s] w λe q=>(∃v,e=.returned v)/\(Lib.BuilderAt 71 5 B b (C (some ⟨b,0,none⟩)) (bs++Lib.strCells s) q/\Below B w q)/\∀k o,w.heap[k]?=some o->k≠b->(∀c z,o≠.cells c 5 z)->q.heap[k]?=some o:=by
 obtain⟨J,L,O,P,G⟩:=Bo Tryz.infoByte;go_enter Tryz.func32,Tryz.ntmps32
 go_wp2_with(go_at_call 69;refine(VU B b bs _ h).mono ?_)
 rintro e j ⟨rfl,⟨a,m⟩,x⟩;have H:=Ja x;clear x;obtain⟨u,v,f,t,F⟩:=a;have c1:j.cell? ⟨b,1,none⟩=some v:=by rw[Lib.cell_of_heap f];rfl
 go_wp2_with(at_builtin;refine Lib.wpList_append_own_string _ rfl _ _ 69 9 rfl B 5 J Tryz.underlying69 Tryz.underlying9 L O P G _ _ _ rfl t s rfl ?c3 ?c4 ?c5 ?_)
 case c3=>unfold maxLen;omega
 case c4=>omega
 case c5=>have:=m.size;omega
 intro M i D n _;have N:b<j.heap.size:=(Ab.1 f).1;have d:i.heap[b]?=some (.cells #[C (some ⟨b,0,none⟩),v] 71 (0,0)):=(n.block b N (λe=>F e.symm)).trans f;have d1:i.cell? ⟨b,1,none⟩=some v:=by rw[Lib.cell_of_heap d];rfl
 have f1:i.frozen? ⟨b,1,none⟩=false:=Lib.frozen_of_heap d 1;obtain⟨A,E,cap,rfl⟩:∃A E cap,M=.slice A E cap:=by
  rcases D.2 with⟨r,_⟩|⟨g,cap,c,r,_⟩
  . exact⟨_,_,_,r⟩
  . exact⟨_,_,_,r⟩
 go_wp2;go_ret2
 refine⟨⟨_,rfl⟩,⟨?_,?_⟩,?_⟩
 . exact Lib.BuilderAt.put (T:=71) (e:=5) u d (bs':=bs++Lib.strCells s) (by simpa[Lib.strCells_length]using D) DS
 . exact(m.grown n (by have:=m.size;omega) (λk l=>(t.lt k l).1)).setCell (p:=⟨b,1,none⟩) u _
 . intro k o l y K;have a:j.heap[k]?=some o:=(H.o k y).trans l;refine(BD _ _ _ k y).trans ((n.block k (Ab.1 a).1 (λe=>?_)).trans a);rcases t.2 with⟨ev,_⟩|⟨S,U,c,ev,_,I,_⟩
   . rw[ev]at e;cases e
   . rw[ev]at e;cases e;rw[I]at a;cases a;exact K _ _ rfl
