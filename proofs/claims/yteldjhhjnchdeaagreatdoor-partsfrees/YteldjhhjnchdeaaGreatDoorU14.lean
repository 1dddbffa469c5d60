import Derived.Test.YteldjhhjnchdeaaGreatDoorU13
import Derived.Lib.AppendStr
import Derived.Lib.UnsafeStr
import Derived.Laws.Externs
import Derived.Shelf.Strings.Builder1
open Go.Value renaming pointer->C
set_option maxRecDepth 100000
set_option maxHeartbeats 16000000
namespace Go.Proofs.YteldjhhjnchdeaaGreatDoor
open Go.RowKit Go.Shelf
theorem Pp:(Tryz.prog.info? 71).map (·.size)=some 2:=by kernel_rfl
theorem Va:liesAt Tryz.prog Tryz.prog.depth 71 (2/Tryz.prog.cellsOf 71) 0 71 1=true:=by kernel_rfl
theorem Tryz.infoByte:(Tryz.prog.info? 5).map (λi=>(i.zero,i.size,i.bytes))=some (some (.int .u8 0),1,1):=by kernel_rfl
theorem Vb(b:Nat)(w:World)(d:w.cell? ⟨b,0,none⟩=some (C (some ⟨b,0,none⟩))):
 Calls Tryz.prog 69 #[C (some ⟨b,0,none⟩)] w λe c=>e=.returned (.tuple #[])/\c=w:=by
 obtain⟨j,a,_⟩:=FD.1 Pp;go_enter Tryz.func69,Tryz.ntmps69
 go_wp2;rw[Lib.run_neq_ptr_same w _ Tryz.underlying68 a];go_wp2;go_end0;exact⟨rfl,rfl⟩
theorem Vc(b:Nat)(w:World)(g:w.cell? ⟨b,0,none⟩=some (C none))(c:w.shape? b=some (71,2))(i:w.frozen? ⟨b,0,none⟩=false):
 Calls Tryz.prog 69 #[C (some ⟨b,0,none⟩)] w λe f=>e=.returned (.tuple #[])/\f=w.setCell ⟨b,0,none⟩ (C (some ⟨b,0,none⟩)):=by
 obtain⟨j,a,d⟩:=FD.1 Pp;go_enter Tryz.func69,Tryz.ntmps69
 go_wp2;rw[Lib.run_to_unsafe w ⟨b,0,none⟩ Tryz.underlying68 Tryz.underlying137 a (by rw[d];decide) c (Nat.zero_lt_succ 1)];simp only[Result.andThen];rw[Oper.upon_value];go_wp2;rw[run_callFunc_extern Tryz.func105 (by kernel_rfl) (by kernel_rfl) (by kernel_rfl) (e:=Extern.AbiNoEscape.same) (by kernel_rfl)];rw[Lib.run_noEscape];simp only[Result.andThen];rw[Oper.upon_value];go_wp2;rw[Lib.run_from_unsafe w ⟨b,0,none⟩ Tryz.underlying137 Tryz.underlying68 a c Va];simp only[Result.andThen];rw[Oper.upon_value];go_wp2;go_end0;exact⟨rfl,rfl⟩
theorem Vd(B b:Nat)(bs:List Value)(w:World)(h:Lib.IsBuilder 71 5 B b bs w):
 Calls Tryz.prog 69 #[C (some ⟨b,0,none⟩)] w λe a=>e=.returned (.tuple #[])/\(Lib.BuilderAt 71 5 B b (C (some ⟨b,0,none⟩)) bs a/\Below B w a)/\∀k,k≠b->a.heap[k]?=w.heap[k]?:=by
 rcases h with h|h
 . refine(Vc b w h.cell0 h.shape h.frozen0).mono ?_;rintro e a ⟨rfl,rfl⟩;exact⟨rfl,⟨h.used _,(BB B w).setCell (p:=⟨b,0,none⟩) h.1 _⟩,λk c=>BC _ _ _ k c⟩
 . refine(Vb b w h.cell0).mono ?_;rintro e a ⟨rfl,rfl⟩;exact⟨rfl,⟨h,BB B _⟩,λ_ _=>rfl⟩
theorem Lu(B b:Nat)(bs:List Value)(s:ByteArray)(w:World)(h:Lib.IsBuilder 71 5 B b bs w)(W:bs.length+s.size<=140737488355328)(V:B<=w.heap.size):
 Calls Tryz.prog 32 #[C (some ⟨b,0,none⟩),.string s] w λe q=>(∃v,e=.returned v)/\(Lib.BuilderAt 71 5 B b (C (some ⟨b,0,none⟩)) (bs++Lib.strCells s) q/\Below B w q)/\∀k o,w.heap[k]?=some o->k≠b->(∀d z,o≠.cells d 5 z)->q.heap[k]?=some o:=by
 obtain⟨Q,I,M,N,P⟩:=Bo Tryz.infoByte;go_enter Tryz.func32,Tryz.ntmps32
 go_wp2_with(go_at_call 69;refine(Vd B b bs _ h).mono ?_)
 rintro e r ⟨rfl,⟨a,f⟩,y⟩;have F:=O y;clear y;obtain⟨x,v,i,m,K⟩:=a;have c1:r.cell? ⟨b,1,none⟩=some v:=by rw[Lib.cell_of_heap i];rfl
 go_wp2_with(at_builtin;refine Lib.wpList_append_own_string _ rfl _ _ 69 9 rfl B 5 Q Tryz.underlying69 Tryz.underlying9 I M N P _ _ _ rfl m s rfl ?c3 ?c4 ?c5 ?_)
 case c3=>unfold maxLen;omega
 case c4=>omega
 case c5=>have:=f.size;omega
 intro R t D j _;have G:b<r.heap.size:=(Ab.1 i).1;have c:t.heap[b]?=some (.cells #[C (some ⟨b,0,none⟩),v] 71 (0,0)):=(j.block b G λe=>K e.symm).trans i;have d1:t.cell? ⟨b,1,none⟩=some v:=by rw[Lib.cell_of_heap c];rfl
 have f1:t.frozen? ⟨b,1,none⟩=false:=Lib.frozen_of_heap c 1;obtain⟨u,E,cap,rfl⟩:∃u E cap,R=.slice u E cap:=by
  rcases D.2 with⟨n,_⟩|⟨g,cap,d,n,_⟩
  . exact⟨_,_,_,n⟩
  . exact⟨_,_,_,n⟩
 go_wp2;go_ret2
 refine⟨⟨_,rfl⟩,⟨?_,?_⟩,?_⟩
 . exact Lib.BuilderAt.put (T:=71) (e:=5) x c (bs':=bs++Lib.strCells s) (by simpa[Lib.strCells_length]using D) DQ
 . exact(f.grown j (by have:=f.size;omega) λk l=>(m.lt k l).1).setCell (p:=⟨b,1,none⟩) x _
 . intro k o l A L;have a:r.heap[k]?=some o:=(F.o k A).trans l;refine(BC _ _ _ k A).trans ((j.block k (Ab.1 a).1 λe=>?_).trans a);rcases m.2 with⟨ev,_⟩|⟨U,S,d,ev,_,H,_⟩
   . rw[ev]at e;cases e
   . rw[ev]at e;cases e;rw[H]at a;cases a;exact L _ _ rfl
